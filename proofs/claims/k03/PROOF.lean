import PyProof.Rows.All
import Wide.All
import OpenK.AllK
import Wide.FinOn
import HandS.EndTab
import HandS.ExcOwn
import HandS.Codes
import HandS.ForMost
import HandS.ForExc
import HandS.ExcInit
import HandS.ExcField
import HandS.Wide
import HandS.Gcd
import HandS.IsInst
import HandS.Zip
import HandS.Deep
import HandS.Flow
import HandS.Style
import HandS.TupAny
import KE.DataIsa
import KE.DataCmp
import HandS.Lambda
import HandS.NoneIn
import HandS.Defaults
import KE.KExcInit
import HandS.TryMany
import HandS.ExcIs
import HandS.Comp
import HandS.Ends
import HandS.Star
import HandS.TupMul
import HandS.More
import HandS.WideBits
import KE.GoesMore
import KE.GoesEnum
import HandS.Iter
import HandS.SortKw
import KE.DataMinMax
import KE.DataMinKey
import PyProof.AutoSeq1
import PyProof.EnumMake
import KE.KNestM
import PyProof.CallFns
import KE.SortKeyHeap
import HandS.ExcValue
import PyProof.ReprRoads
import PyProof.ReprLen
import HandS.Conv
import HandS.Dict
import KE.KItemsList
import KE.KDictZip
import KE.KTurns
import HandS.ListItems
import HandS.Flt
import KE.KDictKeyed
import PySem.Challenge.RW_gridshapes_k03_points_and_vectors_refuse
set_option Elab.async false
set_option linter.all false
set_option maxRecDepth 100000
set_option maxHeartbeats 2000000
namespace TL
open PySem PySem.Spec PyProof.Rows L2
structure FnG (P : Program) (w : World) (K : PySem.W.Frag) (mg : Str → Option Value) (base : Heap) (CX : CXT)
    (n : Nat) (f : Addr) (fd : FuncData) (ps : List Str) (sp : Sp) : Prop where
  len : ∀ xs H Q E, sp xs H Q E → xs.length = ps.length
  go : ∀ (A : Around) (ou : List Env) (t : Shared) (H : Hp) (g : Args) (us : List Value) (xs : List V) (Q : VK) (E : XK),
    Room n A → A.guards = some [] → Env0 P w K mg base A ou t H → BindsTo t fd g (ps.zip us) → Vals xs us → sp xs H Q E →
      codeAny (model P w) A (.call (.ref f) g) (CR CX ou P w H t Q E) t
section
variable {P : Program} {w : World} {K : PySem.W.Frag} {mg : Str → Option Value} {base : Heap} {CX : CXT}
  {m n : Nat} {f : Addr} {fd : FuncData} {ps : List Str} {sp sp2 : Sp}
theorem FnG.mono (F : FnG P w K mg base CX m f fd ps sp) (h : m ≤ n) : FnG P w K mg base CX n f fd ps sp where
  len := F.len
  go A ou t H g us xs Q E r := F.go A ou t H g us xs Q E (r.mono h)
theorem FnG.imp (F : FnG P w K mg base CX n f fd ps sp) (h : ∀ xs H Q E, sp2 xs H Q E → sp xs H Q E) : FnG P w K mg base CX n f fd ps sp2 where
  len xs H Q E q := F.len xs H Q E (h _ _ _ _ q)
  go A ou t H g us xs Q E r gd e b v q := F.go A ou t H g us xs Q E r gd e b v (h _ _ _ _ q)
def BodyG (P : Program) (w : World) (K : PySem.W.Frag) (mg : Str → Option Value) (base : Heap) (CX : CXT) (n : Nat)
    (qual : Str) (scope : Scope) (f : Addr) (cdv : Value) (N : List Str) (body : List Stmt) (sp : Sp) : Prop :=
  ∀ (A : Around) (ou : List Env) (t : Shared) (H : Hp) (xs : List V) (Q : VK) (E : XK),
    Room n (A.deeper (envOfC qual scope t.heap.objs.size f cdv)) → A.guards = some [] → sp xs H Q E →
      ∃ r, PSs (cxOf CX P w K mg base N qual scope f cdv A ou t H E) body r ∧ r { nx := fun _ H' => Q .non H', rt := Q } (start N xs) H
theorem fnG_of {name qual : Str} {params : Arguments} {body : List Stmt} {scope : Scope} {dV kV doc pm cdv ct oc : Value} {an od : Option Addr} {osl : Array (Option Value)} {N : List Str}
    (lk : K.lookup f = some ⟨oc, od, .func (PySem.W.fnOf name qual params body scope dV kV doc pm an cdv ct), osl⟩)
    (hcd : PySem.W.codeIn K cdv qual = true) (S : FnScope N ps scope) (ln : ∀ xs H Q E, sp xs H Q E → xs.length = ps.length)
    (hb : BodyG P w K mg base CX n qual scope f cdv N body sp) :
    FnG P w K mg base CX (n + 1) f (PySem.W.fnOf name qual params body scope dV kV doc pm an cdv ct) ps sp where
  len := ln
  go A ou t H g us xs Q E room gd e0 bd rv q := by
    have there := fun b o e => (e0.bs b o e).1
    have kinds : ∀ y ∈ ps.zip us, scope.names.lookup y.1 = some .local ∨
        (scope.names.lookup y.1 = some .cell ∧ ((cellsFrom (t.heap.objs.size + 1) scope.names []).lookup y.1).isSome = true) := by
      rintro ⟨y, u⟩ hy
      exact (S.par y (List.of_mem_zip hy).1).imp id fun c => ⟨c, PySem.W.cellsFrom_some _ _ _ (.inl c)⟩
    refine codeAny_call_function room.depth ((e0.mod.kin.keeps there) _ _ lk) rfl S.co S.gen rfl
      (PySem.W.codeRec_of (e0.mod.kin.keeps there) hcd) (bd _ _ _ _ ?_)
    refine wpAny_newFunctionEnv_cells S.kind kinds fun env same t1 call => ?_
    subst same
    refine ⟨(e0.mod.nolimit.keeps there).keeps call.toInCall.keep, codeAny_func ?_⟩
    obtain ⟨r, hr, hq⟩ := hb A ou t H xs Q E (room.deeper _) gd q
    have I := inv_start (CX := CX) (E := E) S room.hd e0 (ln _ _ _ _ q) rv call
    refine wpAny_mono (hr.run [] t1 (start N xs) H _ I hq) (fun fl t2 done => ?_) fun _ _ bad => bad
    cases fl with
    | next =>
      obtain ⟨_, H2, J, k⟩ := done
      exact ⟨V.non, H2, J.os, J.bare, J.base, J.hok, rfl, k⟩
    | ret u =>
      obtain ⟨v, _, H2, J, z, k⟩ := done
      exact ⟨v, H2, J.os, J.bare, J.base, J.hok, z, k⟩
    | cont =>
      obtain ⟨_, _, _, k⟩ := done
      cases k
    | brk =>
      obtain ⟨_, _, _, k⟩ := done
      cases k
end
section
variable {X : Cx} {CX : CXT} {n : Nat} {f : Addr} {fd : FuncData} {ps : List Str} {sp : Sp} {E : L2.St → XK} {x : Str} {p pos : Pos} {e : Expr} {es : List Expr} {t : TA}
theorem pe_callG (F : FnG X.prog X.w X.K X.mg X.base CX n f fd ps sp) (room : Room n X.A) (gd : X.A.guards = some []) (hg : Gl X x) (hm : X.mg x = some (.ref f))
    (kp : PySem.W.keepIn X.K (.ref f) = true) (bd : Binds X.K fd ps []) (out : ∀ σ, PassesAt CX X σ (E σ)) (ha : PA X (e :: es) t)
    (hdb : (x == ("__debug__" : Str)) = false := by decide) (he : starEach (e :: es) X.env = (false, eval e X.env) :: starEach es X.env := by rfl)
    (hpl : (backTo pos (starEach es X.env)).any (·.1) = false := by rfl) : PE X (.Call (.Name x p) (e :: es) [] pos) (tCallS sp E t) where
  run pins s σ H Q I h := by
    refine wpAny_Call_Name_kw (ld_glob I hg hm ?_ hdb)
    have args := ha.run pos pins s σ H _ I h
    refine PySem.W.callWith_K (h₀ := X.base) I.ok.mod.kin kp (thn args ?_) he hpl
    rintro us t1 ⟨xs, H1, J, rv, q⟩
    refine ⟨J.kIn, ?_⟩
    have ln : us.length = ps.length := rv.length.symm.trans (F.len _ _ _ _ q)
    have b := bd t1 us J.kIn (by rw [List.append_nil]; exact ln)
    rw [List.append_nil] at b
    refine wpAny_call (codeAny_mono (F.go X.A X.stack t1 H1 ⟨us, []⟩ us xs Q (E σ) room gd J.env0 b rv q) ?_)
    intro r t2 done
    match r, done with
    | .error u, done => exact out σ pins H1 t1 u t2 J done
    | .ok (.ret u), done => exact J.after done
    | .ok .next, done => exact done.elim
    | .ok .brk, done => exact done.elim
    | .ok .cont, done => exact done.elim
end
section
variable {P : Program} {w : World} {K : PySem.W.Frag} {mg mb : Str → Option Value} {s : Shared} {a : Addr} {cs : List (Addr × Addr)} {us : List Value} {ns : List Int} {H : Hp}
structure Start (K : PySem.W.Frag) (mg mb : Str → Option Value) (s : Shared) (a : Addr) (cs : List (Addr × Addr)) (us : List Value) (H : Hp) : Prop where
  kin : K.In s.heap
  glob : s.heap.Ns mainGlobals mg
  blt : s.heap.Ns builtinsNs mb
  bno : ∀ y : Str, y ≠ "__name__" → mb y = bootBuiltins y
  lim : s.heap.NoLimit
  gen : s.gens = #[]
  tab : ∀ p ∈ cs, s.heap.get? p.2 = some { cls := .none, data := .fields #[] }
  tno : ∀ p ∈ cs, K.lookup p.2 = none
  hd : ∀ p ∈ cs, PySem.W.CodeHd s.heap p.1 p.2
  mod : ∃ (bm : Addr) (ob : Obj), mg "__builtins__" = some (.ref bm) ∧ bm ≠ builtinsNs ∧ s.heap.get? bm = some ob ∧
    ob.cls = .type "module" ∧ ob.dict = some builtinsNs ∧ ob.data = .plain
  scr : s.heap.get? a = some { cls := .type "list", data := .seq us.toArray }
  dom : ∀ b, H b ≠ none → (b = a ∧ K.lookup a = none) ∨ ∃ p ∈ cs, b = p.2
variable (T : Start K mg mb s a cs us H)
theorem Start.see (T : Start K mg mb s a cs us H) {b : Addr} {o : Obj} (e : s.heap.get? b = some o) (h1 : ∀ xs k, o.data ≠ .seq xs k) (h2 : o.data ≠ .fields #[]) : (hidT s.heap H).get? b = some o := by
  refine hidT_get e (Decidable.byContradiction fun z => ?_)
  rcases T.dom b z with ⟨rfl, _⟩ | ⟨p, hp, rfl⟩
  · rw [T.scr] at e
    cases e
    exact h1 _ _ rfl
  · rw [T.tab p hp] at e
    cases e
    exact h2 rfl
theorem Start.nsH (T : Start K mg mb s a cs us H) {b : Addr} {m : Str → Option Value} (h : s.heap.Ns b m) : (hidT s.heap H).Ns b m := by
  obtain ⟨o, es, k, e, d, r⟩ := h
  exact ⟨o, es, k, T.see e (fun xs j z => by rw [d] at z; cases z) (fun z => by rw [d] at z; cases z), d, r⟩
theorem Start.kinH (T : Start K mg mb s a cs us H) : K.In (hidT s.heap H) := fun b o e => by
  refine hidT_get (T.kin b o e) (Decidable.byContradiction fun z => ?_)
  rcases T.dom b z with ⟨rfl, n⟩ | ⟨p, hp, rfl⟩
  · rw [n] at e
    cases e
  · rw [T.tno p hp] at e
    cases e
theorem Start.table (T : Start K mg mb s a cs us H) (p : Addr × Addr) (hp : p ∈ cs) : LamX.TabB (hidT s.heap H) mg p.1 p.2 := by
  have tp := T.tab p hp
  refine ⟨?_, ?_, fun z => ?_⟩
  · obtain ⟨o, us, file, tf, flags, tg, inF, text, tt, e, r1, r2, rest⟩ := T.hd p hp
    have r2' := r2
    refine ⟨o, us, file, tf, flags, tg, inF, text, tt, T.see e (fun xs k z => ?_) (fun z => ?_), r1, r2', rest⟩
    · rw [r2] at z
      cases z
    · rw [r2] at z
      cases z
      obtain ⟨r3, _⟩ := rest
      simp at r3
  · obtain ⟨bm, ob, b1, b2, b3, b4, b5, b6⟩ := T.mod
    refine ⟨bm, ob, b1, b2, fun q => ?_, fun q => ?_, T.see b3 (fun xs k z => by rw [b6] at z; cases z) (fun z => by rw [b6] at z; cases z), b4, b5, b6⟩
    · obtain ⟨o, _, _, e, d, _⟩ := T.glob
      rw [q, e] at b3
      cases b3
      rw [d] at b6
      cases b6
    · rw [q, tp] at b3
      cases b3
      cases b6
  · obtain ⟨o, _, _, e, d, _⟩ := T.glob
    rw [z, tp] at e
    cases e
    cases d
theorem Start.env0 (T : Start K mg mb s a cs us H) (hok : HOk P w H s.heap) : Env0 P w K mg (hidT s.heap H) callerA [] s H where
  frames := rfl
  mod := ⟨T.kinH, T.nsH T.glob, ⟨mb, T.nsH T.blt, T.bno⟩, by obtain ⟨m, h1, h2⟩ := T.lim; exact ⟨m, T.nsH h1, h2⟩⟩
  bs b o e := of_hidT e
  bsz := Nat.le_of_eq (hidT_size _ _)
  funs := trivial
  frf b hb := by cases hb
  hok := hok
  bare := .of_eq T.gen
theorem Start.done (T : Start K mg mb s a cs us H) (tb : ∀ p ∈ cs, H p.2 = some (.tbl #[])) (fz : ∀ b, H b = none ∨ (∃ p ∈ cs, b = p.2) ∨ ∃ o xs, H b = some (.frz o (.lst xs))) (hok : HOk P w H s.heap)
    {H2 : Hp} {t : Shared} (un : Un (frs []) [] H H2 s.heap t.heap) (hok2 : HOk P w H2 t.heap) : OldK s.heap t.heap := by
  have rows : ∀ b o, (¬ ∃ p ∈ cs, b = p.2) → s.heap.get? b = some o → t.heap.get? b = some o := fun b o nb e => by
    rcases fz b with z | z | ⟨ob, xs, z⟩
    · exact un.keep b o e z (fun q => by cases q) (fun q => by cases q)
    · exact (nb z).elim
    · have e1 := (hok b _ z).1
      have e2 := (hok2 b _ (un.frzs b ob _ z)).1
      rw [e] at e1
      cases e1
      exact e2
  have more : ∀ p ∈ cs, ∃ vs : Array Value, t.heap.get? p.2 = some { cls := .none, data := .fields vs } := fun p hp => by
    obtain ⟨vs, z⟩ := un.tbls p.2 #[] (tb p hp)
    exact ⟨_, hok2 p.2 _ z⟩
  constructor
  · intro b o e
    by_cases hb : ∃ p ∈ cs, b = p.2
    · obtain ⟨p, hp, rfl⟩ := hb
      obtain ⟨vs, z⟩ := more p hp
      have tp := T.tab p hp
      rw [tp] at e
      cases e
      refine .inr (.inl ⟨((T.hd p hp).tab tp).isCodeTable, rfl, #[], vs, rfl, ?_⟩)
      rw [Array.empty_append]
      exact z
    · exact .inl (rows b o hb e)
  · intro b o e
    by_cases hb : ∃ p ∈ cs, b = p.2
    · obtain ⟨p, hp, rfl⟩ := hb
      obtain ⟨vs, z⟩ := more p hp
      exact ⟨_, z⟩
    · exact ⟨o, rows b o hb e⟩
section
variable {CX : CXT} {n : Nat} {f : Addr} {fd : FuncData} {x : Str} {sp : Sp}
theorem Start.call (T : Start K mg mb s a cs us H) (tb : ∀ p ∈ cs, H p.2 = some (.tbl #[])) (fz : ∀ b, H b = none ∨ (∃ p ∈ cs, b = p.2) ∨ ∃ o xs, H b = some (.frz o (.lst xs))) (hok : HOk P w H s.heap) (room : Room n callerA)
    (F : ∀ base : Heap, K.In base → base.Ns mainGlobals mg → (∀ p ∈ cs, LamX.TabB base mg p.1 p.2) → FnG P w K mg base CX n f fd [x] sp) (bd : ∀ (t : Shared) (u : Value), BindsTo t fd ⟨[u], []⟩ [(x, u)])
    (hq : sp [.ref a] H (fun v _ => v = .bl true) fun _ _ _ => False) (out : ∀ e t, CX [] H s (fun _ _ _ => False) e t → False) :
    codeAny (model P w) callerA (.call (.ref f) ⟨[.ref a], []⟩) (fun r t => r = .ok (.ret (.bool true)) ∧ OldK s.heap t.heap ∧ t.os = s.os ∧ AllBare t.gens) s := by
  have FB := F (hidT s.heap H) T.kinH (T.nsH T.glob) T.table
  refine codeAny_mono (FB.go callerA [] s H ⟨[.ref a], []⟩ [.ref a] [.ref a] _ _ room rfl (T.env0 hok) (bd s (.ref a)) (.cons rfl .nil) hq) ?_
  intro r t z
  match r, z with
  | .error e, z => exact (out e t z).elim
  | .ok .next, z => exact z.elim
  | .ok .brk, z => exact z.elim
  | .ok .cont, z => exact z.elim
  | .ok (.ret u), z =>
    obtain ⟨v, H2, os, bare, un, hok2, rv, (q : v = .bl true)⟩ := z
    subst q
    obtain rfl : u = Value.bool true := rv
    exact ⟨rfl, T.done tb fz hok un hok2, os, bare⟩
end
noncomputable def tabH (cs : List (Addr × Addr)) : Hp := open Classical in fun b => if ∃ p ∈ cs, b = p.2 then some (.tbl #[]) else none
theorem tabH_in {b : Addr} (h : ∃ p ∈ cs, b = p.2) : tabH cs b = some (.tbl #[]) := if_pos h
theorem tabH_out {b : Addr} (h : ¬ ∃ p ∈ cs, b = p.2) : tabH cs b = none := if_neg h
theorem tabH_some {b : Addr} {o : HO} (h : tabH cs b = some o) : (∃ p ∈ cs, b = p.2) ∧ o = .tbl #[] := by
  by_cases k : ∃ p ∈ cs, b = p.2
  · rw [tabH_in k] at h
    cases h
    exact ⟨k, rfl⟩
  · rw [tabH_out k] at h
    cases h
theorem law_callG {CX : CXT} {n : Nat} {f : Addr} {fd : FuncData} {x : Str} {sp : Sp} (T : ∀ H : Hp, (∀ b, H b ≠ none → (b = a ∧ K.lookup a = none) ∨ ∃ p ∈ cs, b = p.2) → Start K mg mb s a cs us H)
    (hi : IntsAre us ns) (hl : ns.length ≤ sizeLine) (room : Room n callerA)
    (F : ∀ base : Heap, K.In base → base.Ns mainGlobals mg → (∀ p ∈ cs, LamX.TabB base mg p.1 p.2) → FnG P w K mg base CX n f fd [x] sp) (bd : ∀ (t : Shared) (u : Value), BindsTo t fd ⟨[u], []⟩ [(x, u)])
    (hsp : ∀ H : Hp, (∀ p ∈ cs, H p.2 = some (.tbl #[])) → SqL K H a (ns.map V.int) → sp [.ref a] H (fun v _ => v = .bl true) fun _ _ _ => False) (out : ∀ H e t, CX [] H s (fun _ _ _ => False) e t → False) :
    codeAny (model P w) callerA (.call (.ref f) ⟨[.ref a], []⟩) (fun r t => r = .ok (.ret (.bool true)) ∧ OldK s.heap t.heap ∧ t.os = s.os ∧ AllBare t.gens) s := by
  have rv := vals_ints hi
  have T0 := T (tabH cs) fun b z => .inr (Decidable.byContradiction fun k => z (tabH_out k))
  have okT : ∀ b o, tabH cs b = some o → ObjOk P w (tabH cs) s.heap b o := fun b o z => by
    obtain ⟨⟨p, hp, rfl⟩, rfl⟩ := tabH_some z
    exact T0.tab p hp
  cases hk : K.lookup a with
  | some o =>
    have e := T0.kin a o hk
    rw [T0.scr] at e
    cases e
    refine T0.call (fun p hp => tabH_in ⟨p, hp, rfl⟩) (fun b => ?_) okT room F bd (hsp _ (fun p hp => tabH_in ⟨p, hp, rfl⟩) ?_) (out _)
    · by_cases k : ∃ p ∈ cs, b = p.2
      · exact .inr (.inl k)
      · exact .inl (tabH_out k)
    · refine .inr ⟨_, us.toArray, _, hk, rfl, rfl, rfl, ?_, by simpa using rv⟩
      rw [List.size_toArray, hi.length]
      exact hl
  | none =>
    have na : ¬ ∃ p ∈ cs, a = p.2 := fun ⟨p, hp, z⟩ => by
      have q := T0.tab p hp
      rw [← z, T0.scr] at q
      cases q
    have T1 := T (upd (tabH cs) a (.frz { cls := .type "list", data := .seq us.toArray } (.lst (ns.map V.int)))) fun b z => by
      by_cases hb : b = a
      · exact .inl ⟨hb, hk⟩
      · rw [upd_ne hb] at z
        exact .inr (Decidable.byContradiction fun k => z (tabH_out k))
    have tb : ∀ p ∈ cs, upd (tabH cs) a (.frz { cls := .type "list", data := .seq us.toArray } (.lst (ns.map V.int))) p.2 = some (.tbl #[]) := fun p hp => by
      rw [upd_ne fun z => na ⟨p, hp, z.symm⟩]
      exact tabH_in ⟨p, hp, rfl⟩
    refine T1.call tb (fun b => ?_) (fun b o z => ?_) room F bd (hsp _ tb (.inl (.inr ⟨_, upd_same⟩))) (out _)
    · by_cases hb : b = a
      · rw [hb]
        exact .inr (.inr ⟨_, _, upd_same⟩)
      · rw [upd_ne hb]
        by_cases k : ∃ p ∈ cs, b = p.2
        · exact .inr (.inl k)
        · exact .inl (tabH_out k)
    · by_cases hb : b = a
      · subst hb
        rw [upd_same] at z
        cases z
        exact ⟨T1.scr, by rw [List.length_map]; exact hl, us, _, rv, T1.scr⟩
      · rw [upd_ne hb] at z
        obtain ⟨⟨p, hp, rfl⟩, rfl⟩ := tabH_some z
        exact T0.tab p hp
theorem law_callTG {CX : CXT} {n : Nat} {f : Addr} {fd : FuncData} {x : Str} {sp : Sp}
    (kin : K.In s.heap) (glob : s.heap.Ns mainGlobals mg) (blt : s.heap.Ns builtinsNs mb) (bno : ∀ y : Str, y ≠ "__name__" → mb y = bootBuiltins y) (lim : s.heap.NoLimit) (gen : s.gens = #[])
    (tab : ∀ p ∈ cs, s.heap.get? p.2 = some { cls := .none, data := .fields #[] }) (tno : ∀ p ∈ cs, K.lookup p.2 = none) (hd : ∀ p ∈ cs, PySem.W.CodeHd s.heap p.1 p.2)
    (mod : ∃ (bm : Addr) (ob : Obj), mg "__builtins__" = some (.ref bm) ∧ bm ≠ builtinsNs ∧ s.heap.get? bm = some ob ∧
      ob.cls = .type "module" ∧ ob.dict = some builtinsNs ∧ ob.data = .plain)
    (scr : s.heap.get? a = some { cls := .type "list", data := .seq us.toArray }) (hi : IntsAre us ns) (hl : ns.length ≤ sizeLine) (room : Room n callerA)
    (F : ∀ base : Heap, K.In base → base.Ns mainGlobals mg → (∀ p ∈ cs, LamX.TabB base mg p.1 p.2) → FnG P w K mg base CX n f fd [x] sp) (bd : ∀ (t : Shared) (u : Value), BindsTo t fd ⟨[u], []⟩ [(x, u)])
    (hsp : ∀ H : Hp, (∀ p ∈ cs, H p.2 = some (.tbl #[])) → SqL K H a (ns.map V.int) → sp [.ref a] H (fun v _ => v = .bl true) fun _ _ _ => False) (out : ∀ H e t, CX [] H s (fun _ _ _ => False) e t → False) :
    codeAny (model P w) callerA (.call (.ref f) ⟨[.ref a], []⟩) (fun r t => r = .ok (.ret (.bool true)) ∧ OldK s.heap t.heap ∧ t.os = s.os ∧ AllBare t.gens) s :=
  law_callG (fun H dom => { kin := kin, glob := glob, blt := blt, bno := bno, lim := lim, gen := gen, tab := tab, tno := tno, hd := hd, mod := mod, scr := scr, dom := dom }) hi hl room F bd hsp out
end
end TL

namespace TL
open PySem PySem.Spec PyProof.Rows L2

inductive Sl where
  | pv (d : PyData)
  | ow (ds : List PyData)
  | io (ds : List PyData)
  | sc (ns : List Int)

abbrev En := List (Option Sl)

def Sl.mut : Sl → Bool
  | .ow _ => true
  | .io _ => true
  | _ => false

def IsDic (H : Hp) (a : Addr) : Prop := (∃ kvs, H a = some (.dK kvs)) ∨ ∃ φ : Heap → Prop, H a = some (.ext φ) ∧ ∀ g, φ g → ∃ o, g.get? a = some o ∧ o.cls = .type "dict"
mutual
inductive Rp (K : W.Frag) (O : Addr → Prop) (H : Hp) : PyData → V → Prop
  | non : Rp K O H .none .non
  | bl (b : Bool) : Rp K O H (.bool b) (.bl b)
  | int (i : Int) : Rp K O H (.int i) (.int i)
  | str (x : Str) : Rp K O H (.str x) (.str x)
  | lst {a : Addr} {xs : List V} {ds : List PyData} : H a = some (.lst xs) → ¬ O a → Rps K O H ds xs → Rp K O H (.list ds) (.ref a)
  | tup {a : Addr} {xs : List V} {ds : List PyData} : SqT K H a xs → Rps K O H ds xs → Rp K O H (.tuple ds) (.ref a)
  | dic {a : Addr} : IsDic H a → Rp K O H (.dict []) (.ref a)
inductive Rps (K : W.Frag) (O : Addr → Prop) (H : Hp) : List PyData → List V → Prop
  | nil : Rps K O H [] []
  | cons {v : V} {vs : List V} {d : PyData} {ds : List PyData} : Rp K O H d v → Rps K O H ds vs → Rps K O H (d :: ds) (v :: vs)
end

mutual
theorem Rp.dp {K : W.Frag} {O : Addr → Prop} {H : Hp} : ∀ (d : PyData) (v : V), d.hasDict = false → Rp K O H d v → Dp K H v d
  | .none, _, _, h => by cases h; exact .non
  | .bool b, _, _, h => by cases h; exact .bl b
  | .int i, _, _, h => by cases h; exact .int i
  | .str x, _, _, h => by cases h; exact .str x
  | .list ds, _, z, h => by
    cases h with
    | lst h1 h2 h3 => exact .lst (.inl (.inl h1)) (Rps.dp ds _ z h3)
  | .tuple ds, _, z, h => by
    cases h with
    | tup h1 h3 => exact .tup h1 (Rps.dp ds _ z h3)
  | .dict _, _, z, _ => by cases z
theorem Rps.dp {K : W.Frag} {O : Addr → Prop} {H : Hp} : ∀ (ds : List PyData) (vs : List V), PyData.hasDictAll ds = false → Rps K O H ds vs → DpAll K H vs ds
  | [], _, _, h => by cases h; exact .nil
  | d :: ds, _, z, h => by
    cases h with
    | cons h1 h2 => exact .cons (Rp.dp d _ (Bool.or_eq_false_iff.mp z).1 h1) (Rps.dp ds _ (Bool.or_eq_false_iff.mp z).2 h2)
end

theorem nd_sh {d : PyData} (h : SeqAt.shaped d = true) : d.hasDict = false := PyData.hasDict_of_canLay d (SeqAt.canLay_of_shaped h)

def Goes (K : W.Frag) (O : Addr → Prop) (H : Hp) (O' : Addr → Prop) (H' : Hp) : Prop :=
  (∀ a xs, H a = some (.lst xs) → ¬ O a → H' a = some (.lst xs) ∧ ¬ O' a) ∧ (∀ a xs, SqT K H a xs → SqT K H' a xs) ∧ (∀ a, IsDic H a → IsDic H' a)
mutual
theorem Rp.goes {K : W.Frag} {O O' : Addr → Prop} {H H' : Hp} (g : Goes K O H O' H') : ∀ (d : PyData) (v : V), Rp K O H d v → Rp K O' H' d v
  | .none, _, h => by cases h; exact .non
  | .bool b, _, h => by cases h; exact .bl b
  | .int i, _, h => by cases h; exact .int i
  | .str x, _, h => by cases h; exact .str x
  | .list ds, _, h => by
    cases h with
    | lst h1 h2 h3 => exact .lst (g.1 _ _ h1 h2).1 (g.1 _ _ h1 h2).2 (Rps.goes g ds _ h3)
  | .tuple ds, _, h => by
    cases h with
    | tup h1 h3 => exact .tup (g.2.1 _ _ h1) (Rps.goes g ds _ h3)
  | .dict _, _, h => by
    cases h with
    | dic h1 => exact .dic (g.2.2 _ h1)
theorem Rps.goes {K : W.Frag} {O O' : Addr → Prop} {H H' : Hp} (g : Goes K O H O' H') : ∀ (ds : List PyData) (vs : List V), Rps K O H ds vs → Rps K O' H' ds vs
  | [], _, h => by cases h; exact .nil
  | d :: ds, _, h => by
    cases h with
    | cons h1 h2 => exact .cons (Rp.goes g d _ h1) (Rps.goes g ds _ h2)
end
theorem Goes.trans {K : W.Frag} {O O' O2 : Addr → Prop} {H H' H2 : Hp} (a : Goes K O H O' H') (b : Goes K O' H' O2 H2) : Goes K O H O2 H2 :=
  ⟨fun c xs h n => b.1 c xs (a.1 c xs h n).1 (a.1 c xs h n).2, fun c xs h => b.2.1 c xs (a.2.1 c xs h), fun c h => b.2.2 c (a.2.2 c h)⟩

theorem Rps.length {K : W.Frag} {O : Addr → Prop} {H : Hp} : ∀ {ds : List PyData} {vs : List V}, Rps K O H ds vs → ds.length = vs.length
  | _, _, .nil => rfl
  | _, _, .cons _ t => by simp [Rps.length t]
theorem Rps.get {K : W.Frag} {O : Addr → Prop} {H : Hp} : ∀ {ds : List PyData} {vs : List V} {i : Nat} {d : PyData}, Rps K O H ds vs → ds[i]? = some d → ∃ v, vs[i]? = some v ∧ Rp K O H d v
  | _, _, _, _, .nil, e => by simp at e
  | _, _, 0, _, .cons r _, e => by simp at e; subst e; exact ⟨_, rfl, r⟩
  | _, _, i + 1, x, .cons _ t, e => by
    obtain ⟨u, h1, h2⟩ := Rps.get (i := i) (d := x) t (by simpa using e)
    exact ⟨u, by simpa using h1, h2⟩
theorem Rps.set {K : W.Frag} {O : Addr → Prop} {H : Hp} {d : PyData} {v : V} (r : Rp K O H d v) : ∀ {ds : List PyData} {vs : List V} (i : Nat), Rps K O H ds vs → Rps K O H (ds.set i d) (vs.set i v)
  | _, _, _, .nil => .nil
  | _, _, 0, .cons _ t => .cons r t
  | _, _, i + 1, .cons q t => .cons q (Rps.set r i t)
theorem Rps.append {K : W.Frag} {O : Addr → Prop} {H : Hp} : ∀ {ds es : List PyData} {vs ws : List V}, Rps K O H ds vs → Rps K O H es ws → Rps K O H (ds ++ es) (vs ++ ws)
  | _, _, _, _, .nil, s => s
  | _, _, _, _, .cons r t, s => .cons r (Rps.append t s)
theorem Rps.take {K : W.Frag} {O : Addr → Prop} {H : Hp} : ∀ {ds : List PyData} {vs : List V} (n : Nat), Rps K O H ds vs → Rps K O H (ds.take n) (vs.take n)
  | _, _, 0, _ => .nil
  | _, _, _ + 1, .nil => .nil
  | _, _, n + 1, .cons r t => .cons r (Rps.take n t)
theorem Rps.drop {K : W.Frag} {O : Addr → Prop} {H : Hp} : ∀ {ds : List PyData} {vs : List V} (n : Nat), Rps K O H ds vs → Rps K O H (ds.drop n) (vs.drop n)
  | _, _, 0, r => r
  | _, _, _ + 1, .nil => .nil
  | _, _, n + 1, .cons _ t => Rps.drop n t

def Own (env : En) (σ : L2.St) (a : Addr) : Prop := ∃ (i : Nat) (s : Sl), env[i]? = some (some s) ∧ s.mut = true ∧ σ[i]? = some (some (V.ref a))
def Al (O0 : Addr → Prop) (env : En) (σ : L2.St) (a : Addr) : Prop := O0 a ∨ Own env σ a

def SqS (K : W.Frag) (H : Hp) (a : Addr) (xs : List V) : Prop :=
  (∃ o, H a = some (.frz o (.lst xs))) ∨ ∃ (o : Obj) (its : Array Value) (n : Nat), K.lookup a = some o ∧ o.cls = .type "list" ∧ o.dict = none ∧ o.data = .seq its n ∧ its.size ≤ sizeLine ∧ Vals xs its.toList
theorem SqS.sq {K : W.Frag} {H : Hp} {a : Addr} {xs : List V} (h : SqS K H a xs) : SqL K H a xs := h.elim (fun h => .inl (.inr h)) .inr
def SqC (K : W.Frag) (O : Addr → Prop) (H : Hp) (a : Addr) (xs : List V) : Prop := SqS K H a xs ∨ H a = some (.lst xs) ∧ ¬ O a
theorem SqC.sq {K : W.Frag} {O : Addr → Prop} {H : Hp} {a : Addr} {xs : List V} (h : SqC K O H a xs) : SqL K H a xs := h.elim SqS.sq fun h => .inl (.inl h.1)
theorem SqC.goes {K : W.Frag} {O O' : Addr → Prop} {H H' : Hp} (g : Goes K O H O' H') {a : Addr} {xs : List V} (hs : SqS K H a xs → SqS K H' a xs) (h : SqC K O H a xs) : SqC K O' H' a xs := h.elim (fun h => .inl (hs h)) fun h => .inr (g.1 _ _ h.1 h.2)
def RS (K : W.Frag) (O : Addr → Prop) (H : Hp) : Sl → V → Prop
  | .pv d, v => Rp K O H d v
  | .ow ds, v => ∃ a ps, v = .ref a ∧ H a = some (.lst ps) ∧ Rps K O H ds ps
  | .io ds, v => ∃ a ps, v = .ref a ∧ H a = some (.lst ps) ∧ Rps K O H ds ps
  | .sc ns, v => ∃ a, v = .ref a ∧ SqC K O H a (ns.map V.int)

class Tbl where
  T : List (Addr × Str)
variable [Tbl]
def NT (o : HO) : Prop := ∀ ps, o ≠ .tbl ps
omit [Tbl] in
theorem nt_lst {xs : List V} : NT (.lst xs) := fun _ z => nomatch z
omit [Tbl] in
theorem nt_tup {xs : List V} : NT (.tup xs) := fun _ z => nomatch z
omit [Tbl] in
theorem nt_dK {kvs : List (Key × V)} : NT (.dK kvs) := fun _ z => nomatch z
omit [Tbl] in
theorem nt_ext {φ : Heap → Prop} : NT (.ext φ) := fun _ z => nomatch z
omit [Tbl] in
theorem nt_frz {o : Obj} {u : HO} : NT (.frz o u) := fun _ z => nomatch z
omit [Tbl] in
theorem nt_xd {fs : List (Str × V)} : NT (.xd fs) := fun _ z => nomatch z
omit [Tbl] in
theorem nt_co {c : Addr} {q : Str} : NT (LamX.CodeO c q) := fun ps => LamX.codeO_ne ps
structure Ok (K : W.Frag) (O0 : Addr → Prop) (env : En) (σ : L2.St) (H : Hp) : Prop where
  len : env.length = σ.length
  val : ∀ (i : Nat) (s : Sl), env[i]? = some (some s) → ∃ v, σ[i]? = some (some v) ∧ RS K (Al O0 env σ) H s v
  inj : ∀ (i j : Nat) (s t : Sl) (a : Addr), env[i]? = some (some s) → s.mut = true → env[j]? = some (some t) → t.mut = true → σ[i]? = some (some (V.ref a)) → σ[j]? = some (some (V.ref a)) → i = j
  lst : ∀ a, O0 a → ∃ xs, H a = some (.lst xs)
  dis : ∀ a, Own env σ a → ¬ O0 a
  tab : LamX.Tabs Tbl.T H

theorem Ok.own {K : W.Frag} {O0 : Addr → Prop} {env : En} {σ : L2.St} {H : Hp} (ok : Ok K O0 env σ H) {a : Addr} (h : Own env σ a) : ∃ xs, H a = some (.lst xs) := by
  obtain ⟨i, s, e, m, es⟩ := h
  obtain ⟨v, ev, r⟩ := ok.val i s e
  rw [es] at ev
  cases ev
  cases s with
  | pv d => cases m
  | sc ns => cases m
  | ow ds =>
    obtain ⟨b, ps, e1, e2, _⟩ := r
    cases e1
    exact ⟨ps, e2⟩
  | io ds =>
    obtain ⟨b, ps, e1, e2, _⟩ := r
    cases e1
    exact ⟨ps, e2⟩
theorem Ok.al {K : W.Frag} {O0 : Addr → Prop} {env : En} {σ : L2.St} {H : Hp} (ok : Ok K O0 env σ H) {a : Addr} (h : Al O0 env σ a) : ∃ xs, H a = some (.lst xs) :=
  h.elim (ok.lst a) ok.own

structure Stp (K : W.Frag) (O0 : Addr → Prop) (env : En) (σ : L2.St) (H : Hp) (env' : En) (σ' : L2.St) (H' : Hp) : Prop where
  ok : Ok K O0 env' σ' H'
  keep : ∀ a o, H a = some o → ¬ Own env σ a → (_ : NT o := by first | exact nt_lst | exact nt_tup | exact nt_dK | exact nt_ext | exact nt_frz | exact nt_xd | exact nt_co | assumption) → H' a = some o
  dom : ∀ a, H a ≠ none → H' a ≠ none
  le : ∀ a, Own env' σ' a → Own env σ a ∨ H a = none
  io : ∀ (i : Nat) (ds : List PyData), env[i]? = some (some (Sl.io ds)) → (∃ ds', env'[i]? = some (some (Sl.io ds'))) ∧ σ'[i]? = σ[i]?
structure StpE (K : W.Frag) (O0 : Addr → Prop) (env : En) (σ : L2.St) (H : Hp) (env' : En) (H' : Hp) : Prop where
  ok : Ok K O0 env' σ H'
  keep : ∀ a o, H a = some o → ¬ Own env σ a → (_ : NT o := by first | exact nt_lst | exact nt_tup | exact nt_dK | exact nt_ext | exact nt_frz | exact nt_xd | exact nt_co | assumption) → H' a = some o
  dom : ∀ a, H a ≠ none → H' a ≠ none
  le : ∀ a, Own env' σ a → Own env σ a
  io : ∀ (i : Nat) (ds : List PyData), env[i]? = some (some (Sl.io ds)) → ∃ ds', env'[i]? = some (some (Sl.io ds'))

section
variable {K : W.Frag} {O0 : Addr → Prop} {env env1 env2 : En} {σ σ1 σ2 : L2.St} {H H1 H2 : Hp}
theorem StpE.step (s : StpE K O0 env σ H env1 H1) : Stp K O0 env σ H env1 σ H1 :=
  ⟨s.ok, fun a o h n nt => s.keep a o h n nt, s.dom, fun a h => .inl (s.le a h), fun i ds e => ⟨s.io i ds e, rfl⟩⟩
theorem StpE.refl (ok : Ok K O0 env σ H) : StpE K O0 env σ H env H :=
  ⟨ok, fun _ _ h _ _ => h, fun _ h => h, fun _ h => h, fun i ds e => ⟨ds, e⟩⟩
theorem Stp.refl (ok : Ok K O0 env σ H) : Stp K O0 env σ H env σ H := (StpE.refl ok).step
theorem StpE.trans (a : StpE K O0 env σ H env1 H1) (b : StpE K O0 env1 σ H1 env2 H2) : StpE K O0 env σ H env2 H2 where
  ok := b.ok
  keep := fun c o h n nt => b.keep c o (a.keep c o h n nt) (fun z => n (a.le c z)) nt
  dom := fun c h => b.dom c (a.dom c h)
  le := fun c h => a.le c (b.le c h)
  io := fun i ds e => by
    obtain ⟨d1, e1⟩ := a.io i ds e
    exact b.io i d1 e1
theorem Stp.trans (a : Stp K O0 env σ H env1 σ1 H1) (b : Stp K O0 env1 σ1 H1 env2 σ2 H2) : Stp K O0 env σ H env2 σ2 H2 where
  ok := b.ok
  keep := fun c o h n nt => b.keep c o (a.keep c o h n nt) (fun z => (a.le c z).elim n fun z => by rw [h] at z; cases z) nt
  dom := fun c h => b.dom c (a.dom c h)
  le := fun c h => (b.le c h).elim (a.le c) fun z => .inr (by
    cases q : H c with
    | none => rfl
    | some o => exact absurd z (a.dom c (by rw [q]; intro h; cases h)))
  io := fun i ds e => by
    obtain ⟨⟨d1, e1⟩, e2⟩ := a.io i ds e
    obtain ⟨h1, h2⟩ := b.io i d1 e1
    exact ⟨h1, h2.trans e2⟩
theorem Ok.tabs (ok : Ok K O0 env σ H) (keep : ∀ a o, H a = some o → ¬ Own env σ a → H1 a = some o) : LamX.Tabs Tbl.T H1 := fun p hp => by
  obtain ⟨ps, h1, h2, h3⟩ := ok.tab p hp
  refine ⟨ps, keep _ _ h1 fun z => ?_, h2, fun pos cv hc => ?_⟩
  · obtain ⟨ys, e⟩ := ok.own z
    rw [h1] at e
    cases e
  · obtain ⟨c, e1, e2⟩ := h3 pos cv hc
    refine ⟨c, e1, keep _ _ e2 fun z => ?_⟩
    obtain ⟨ys, e⟩ := ok.own z
    rw [e2] at e
    cases e
theorem SqT.keep (ok : Ok K O0 env σ H) (keep : ∀ a o, H a = some o → ¬ Own env σ a → NT o → H1 a = some o) {a : Addr} {xs : List V} (h : SqT K H a xs) : SqT K H1 a xs := by
  rcases h with (h | ⟨o, h⟩) | h
  · exact .inl (.inl (keep _ _ h (fun z => by obtain ⟨ys, e⟩ := ok.own z; rw [h] at e; cases e) nt_tup))
  · exact .inl (.inr ⟨o, keep _ _ h (fun z => by obtain ⟨ys, e⟩ := ok.own z; rw [h] at e; cases e) nt_frz⟩)
  · exact .inr h
theorem dic_keep (ok : Ok K O0 env σ H) (keep : ∀ a o, H a = some o → ¬ Own env σ a → NT o → H1 a = some o) {a : Addr} (h : IsDic H a) : IsDic H1 a := by
  rcases h with ⟨kvs, h⟩ | ⟨φ, h, d⟩
  · exact .inl ⟨kvs, keep _ _ h (fun z => by obtain ⟨ys, e⟩ := ok.own z; rw [h] at e; cases e) nt_dK⟩
  · exact .inr ⟨φ, keep _ _ h (fun z => by obtain ⟨ys, e⟩ := ok.own z; rw [h] at e; cases e) nt_ext, d⟩
theorem Stp.goes (ok : Ok K O0 env σ H) (a : Stp K O0 env σ H env1 σ1 H1) : Goes K (Al O0 env σ) H (Al O0 env1 σ1) H1 :=
  ⟨fun c xs h n => ⟨a.keep c _ h fun z => n (.inr z), fun z => z.elim (fun z => n (.inl z)) fun z => (a.le c z).elim (fun z => n (.inr z)) fun z => by rw [h] at z; cases z⟩,
   fun c xs h => SqT.keep ok (fun a' o h n nt => a.keep a' o h n nt) h, fun c h => dic_keep ok (fun a' o h n nt => a.keep a' o h n nt) h⟩
theorem Stp.rp (ok : Ok K O0 env σ H) (a : Stp K O0 env σ H env1 σ1 H1) {d : PyData} {v : V} (r : Rp K (Al O0 env σ) H d v) : Rp K (Al O0 env1 σ1) H1 d v := Rp.goes (a.goes ok) d v r
theorem Stp.rps (ok : Ok K O0 env σ H) (a : Stp K O0 env σ H env1 σ1 H1) {d : List PyData} {v : List V} (r : Rps K (Al O0 env σ) H d v) : Rps K (Al O0 env1 σ1) H1 d v := Rps.goes (a.goes ok) d v r
end
end TL

namespace TL
open PySem PySem.Spec PyProof.Rows L2
variable [Tbl]

inductive Out (α : Type) where
  | ok (a : α)
  | ex (c : Str) (fs : List (Str × PyData)) (env : En)
  | stuck
abbrev D := En → Out (PyData × En)
abbrev DT := En → Out (Bool × En)
abbrev DA := En → Out (List PyData × En)

def Out.bind {α β : Type} : Out α → (α → Out β) → Out β
  | .ok a, f => f a
  | .ex c fs env, _ => .ex c fs env
  | .stuck, _ => .stuck
omit [Tbl] in
@[simp] theorem Out.bind_ok {α β : Type} (a : α) (f : α → Out β) : (Out.ok a).bind f = f a := rfl
omit [Tbl] in
@[simp] theorem Out.bind_ex {α β : Type} (c : Str) (fs : List (Str × PyData)) (env : En) (f : α → Out β) : (Out.ex c fs env : Out α).bind f = .ex c fs env := rfl
omit [Tbl] in
@[simp] theorem Out.bind_stuck {α β : Type} (f : α → Out β) : (Out.stuck : Out α).bind f = .stuck := rfl
def Out.of {α : Type} : Option α → Out α
  | some a => .ok a
  | none => .stuck
omit [Tbl] in
@[simp] theorem Out.of_some {α : Type} (a : α) : Out.of (some a) = .ok a := rfl
omit [Tbl] in
@[simp] theorem Out.of_none {α : Type} : (Out.of (none : Option α)) = .stuck := rfl

def XRep (mg : Str → Option Value) (K : W.Frag) (O : Addr → Prop) (H : Hp) (c : Str) (fs : List (Str × PyData)) (cls : Value) (d : Option Addr) : Prop :=
  ∃ C dd ps, mg c = some (.ref C) ∧ cls = .ref C ∧ d = some dd ∧ H dd = some (.xd ps) ∧ Paired (fun (f : Str × PyData) (p : Str × V) => f.1 = p.1 ∧ Rp K O H f.2 p.2) fs ps

structure Pm where
  K : W.Frag
  mg : Str → Option Value
  O0 : Addr → Prop
  W : WX

def EndE {α : Type} (Y : Pm) (env : En) (σ : L2.St) (H : Hp) (good : α → En → Hp → Prop) : Out (α × En) → Prop
  | .ok (v, env') => ∀ H', StpE Y.K Y.O0 env σ H env' H' → good v env' H'
  | .ex c fs env' => ∀ H' cls d, StpE Y.K Y.O0 env σ H env' H' → XRep Y.mg Y.K (Al Y.O0 env' σ) H' c fs cls d → Y.W cls d σ H'
  | .stuck => False
def tD (Y : Pm) (d : D) : TE := fun σ H Q => ∃ env, Ok Y.K Y.O0 env σ H ∧ EndE Y env σ H (fun v env' H' => ∀ p, Rp Y.K (Al Y.O0 env' σ) H' v p → Q p H') (d env)
def tT (Y : Pm) (d : DT) : TT := fun σ H Q => ∃ env, Ok Y.K Y.O0 env σ H ∧ EndE Y env σ H (fun b _ H' => Q b H') (d env)
def tA (Y : Pm) (d : DA) : TA := fun σ H Q => ∃ env, Ok Y.K Y.O0 env σ H ∧ EndE Y env σ H (fun vs env' H' => ∀ ps, Rps Y.K (Al Y.O0 env' σ) H' vs ps → Q ps H') (d env)

abbrev Cx.pm (X : Cx) (W : WX) (O0 : Addr → Prop) : Pm := ⟨X.K, X.mg, O0, W⟩
def DE (X : Cx) (W : WX) (x : Expr) (d : D) : Prop := ∀ O0, PE X x (tD (Cx.pm X W O0) d)
def DTe (X : Cx) (W : WX) (x : Expr) (d : DT) : Prop := ∀ O0, PT X x (tT (Cx.pm X W O0) d)
def DWe (X : Cx) (W : WX) (x : Expr) (d : DT) : Prop := ∀ O0, PW X x (tT (Cx.pm X W O0) d)
def DAs (X : Cx) (W : WX) (xs : List Expr) (d : DA) : Prop := ∀ O0, PA X xs (tA (Cx.pm X W O0) d)

section
variable {X : Cx} {e : Expr} {t t' : TE}
omit [Tbl] in
theorem PE.imp (h : PE X e t) (i : ∀ σ H Q, t' σ H Q → t σ H Q) : PE X e t' := ⟨fun pins s σ H Q I q => h.run pins s σ H Q I (i _ _ _ q)⟩
omit [Tbl] in
theorem PT.imp {t t' : TT} (h : PT X e t) (i : ∀ σ H Q, t' σ H Q → t σ H Q) : PT X e t' := ⟨fun pins s σ H Q I q => h.run pins s σ H Q I (i _ _ _ q)⟩
omit [Tbl] in
theorem PW.imp {t t' : TT} (h : PW X e t) (i : ∀ σ H Q, t' σ H Q → t σ H Q) : PW X e t' := ⟨fun wh pins s σ H Q I q => h.run wh pins s σ H Q I (i _ _ _ q)⟩
omit [Tbl] in
theorem PA.imp {es : List Expr} {t t' : TA} (h : PA X es t) (i : ∀ σ H Q, t' σ H Q → t σ H Q) : PA X es t' := ⟨fun pos pins s σ H Q I q => h.run pos pins s σ H Q I (i _ _ _ q)⟩
omit [Tbl] in
theorem PS.imp {st : Stmt} {t t' : TS} (h : PS X st t) (i : ∀ D σ H, t' D σ H → t D σ H) : PS X st t' := ⟨fun pins s σ H D I q => h.run pins s σ H D I (i _ _ _ q)⟩
omit [Tbl] in
theorem PSs.imp {st : List Stmt} {t t' : TS} (h : PSs X st t) (i : ∀ D σ H, t' D σ H → t D σ H) : PSs X st t' := ⟨fun pins s σ H D I q => h.run pins s σ H D I (i _ _ _ q)⟩
end

section
variable {Y : Pm} {env env1 : En} {σ : L2.St} {H H1 : Hp} {α β : Type}
theorem EndE.mono {g g' : α → En → Hp → Prop} {o : Out (α × En)} (h : EndE Y env σ H g o) (i : ∀ v e' H', StpE Y.K Y.O0 env σ H e' H' → g v e' H' → g' v e' H') : EndE Y env σ H g' o := by
  cases o with
  | ok p => obtain ⟨v, e'⟩ := p; exact fun H' s => i _ _ _ s (h H' s)
  | ex c fs e' => exact h
  | stuck => exact h
theorem EndE.shift {g : α → En → Hp → Prop} {o : Out (α × En)} (s : StpE Y.K Y.O0 env σ H env1 H1) (h : EndE Y env σ H g o) : EndE Y env1 σ H1 g o := by
  cases o with
  | ok p => obtain ⟨v, e'⟩ := p; exact fun H' s' => h H' (s.trans s')
  | ex c fs e' => exact fun H' cls d s' r => h H' cls d (s.trans s') r
  | stuck => exact h
theorem EndE.bind {g : α → En → Hp → Prop} {g' : β → En → Hp → Prop} {o : Out (α × En)} {f : α × En → Out (β × En)} (h : EndE Y env σ H g' (o.bind f))
    (i : ∀ v e' H', StpE Y.K Y.O0 env σ H e' H' → EndE Y e' σ H' g' (f (v, e')) → g v e' H') : EndE Y env σ H g o := by
  cases o with
  | ok p =>
    obtain ⟨v, e'⟩ := p
    intro H' s
    exact i v e' H' s (EndE.shift s h)
  | ex c fs e' => exact h
  | stuck => exact h
end

theorem EndE.of {Y : Pm} {env : En} {σ : L2.St} {H : Hp} {α β : Type} {g : α → En → Hp → Prop} {o : Option β} {f : β → Out (α × En)} (q : EndE Y env σ H g ((Out.of o).bind f)) : ∃ u, o = some u ∧ EndE Y env σ H g (f u) := by
  cases o with
  | none => exact (show False from q).elim
  | some u => exact ⟨u, rfl, q⟩

def dCons (d : D) (r : DA) : DA := fun env => (d env).bind fun (v, e1) => (r e1).bind fun (vs, e2) => .ok (v :: vs, e2)
def dNil : DA := fun env => .ok ([], env)
section
variable {X : Cx} {W : WX} {e : Expr} {es : List Expr}
theorem das_nil : DAs X W [] dNil := fun O0 => PA.imp pa_nil fun σ H Q ⟨env, ok, h⟩ => h H (StpE.refl ok) [] .nil
theorem das_cons {d : D} {r : DA} (h : DE X W e d) (hr : DAs X W es r) (hs : starEach (e :: es) X.env = (false, eval e X.env) :: starEach es X.env := by rfl) : DAs X W (e :: es) (dCons d r) := fun O0 => by
  refine PA.imp (pa_cons (h O0) (hr O0) hs) fun σ H Q ⟨env, ok, q⟩ => ?_
  refine ⟨env, ok, EndE.bind q fun v e1 H1 s1 q1 p rp => ⟨e1, s1.ok, EndE.bind q1 fun vs e2 H2 s2 q2 ps rps => ?_⟩⟩
  exact q2 H2 (StpE.refl s2.ok) (p :: ps) (.cons (s2.step.rp s1.ok rp) rps)
end

section
variable {X : Cx} {W : WX}
def dC (v : PyData) : D := fun env => .ok (v, env)
def dVar (i : Nat) : D := fun env => match env[i]? with
  | some (some (.pv v)) => .ok (v, env)
  | some (some (.ow ds)) => .ok (.list ds, env.set i (some (.pv (.list ds))))
  | _ => .stuck
theorem de_c {e : Expr} {v : PyData} {w : V} (h : PE X e (tC w)) (r : ∀ K O H, Rp K O H v w) : DE X W e (dC v) := fun O0 =>
  PE.imp h fun σ H Q ⟨env, ok, q⟩ => q H (StpE.refl ok) w (r _ _ _)
theorem de_int {i : Int} {j pos} : DE X W (.Constant (.int i) j pos) (dC (.int i)) := de_c pe_int fun _ _ _ => .int i
theorem de_bl {b j pos} : DE X W (.Constant (.bool b) j pos) (dC (.bool b)) := de_c pe_bl fun _ _ _ => .bl b
theorem de_non {j pos} : DE X W (.Constant .none j pos) (dC .none) := de_c pe_non fun _ _ _ => .non
theorem de_str {x j pos} : DE X W (.Constant (.str x) j pos) (dC (.str x)) := de_c pe_str fun _ _ _ => .str x

omit [Tbl] in
theorem get_set {env : En} {i j : Nat} {x : Option Sl} {s : Sl} (h : (env.set i x)[j]? = some (some s)) : (i = j ∧ x = some s) ∨ (i ≠ j ∧ env[j]? = some (some s)) := by
  by_cases hij : i = j
  · subst hij
    by_cases hl : i < env.length
    · rw [List.getElem?_set_self hl] at h
      exact .inl ⟨rfl, Option.some.inj h⟩
    · rw [List.getElem?_eq_none (by simpa using hl)] at h
      cases h
  · rw [List.getElem?_set_ne hij] at h
    exact .inr ⟨hij, h⟩
theorem freeze {K : PySem.W.Frag} {O0 : Addr → Prop} {env : En} {σ : L2.St} {H : Hp} (ok : Ok K O0 env σ H) {i : Nat} {ds : List PyData} (e : env[i]? = some (some (.ow ds))) :
    ∃ p, σ[i]? = some (some p) ∧ StpE K O0 env σ H (env.set i (some (.pv (.list ds)))) H ∧ Rp K (Al O0 (env.set i (some (.pv (.list ds)))) σ) H (.list ds) p := by
  obtain ⟨v, ev, a, ps, e1, e2, e3⟩ := ok.val i _ e
  subst e1
  have le : ∀ b, Own (env.set i (some (.pv (.list ds)))) σ b → Own env σ b ∧ b ≠ a := fun b ⟨j, s, hj, m, hb⟩ => by
    rcases get_set hj with ⟨h1, h2⟩ | ⟨h1, h2⟩
    · cases h2
      cases m
    · refine ⟨⟨j, s, h2, m, hb⟩, fun z => ?_⟩
      subst z
      exact h1 (ok.inj i j _ _ _ e rfl h2 m ev hb)
  have g : Goes K (Al O0 env σ) H (Al O0 (env.set i (some (.pv (.list ds)))) σ) H :=
    ⟨fun c xs h n => ⟨h, fun z => n (z.elim .inl fun z => .inr (le c z).1)⟩, fun c xs h => h, fun _ h => h⟩
  have na : ¬ Al O0 (env.set i (some (.pv (.list ds)))) σ a := fun z => z.elim (fun z => ok.dis a ⟨i, _, e, rfl, ev⟩ z) fun z => (le a z).2 rfl
  have r : Rp K (Al O0 (env.set i (some (.pv (.list ds)))) σ) H (.list ds) (.ref a) := .lst e2 na (Rps.goes g _ _ e3)
  refine ⟨_, ev, ⟨⟨?_, fun j s hj => ?_, fun j k s t b hj ms hk mt hbj hbk => ?_, ok.lst, fun b h => ok.dis b (le b h).1, ok.tab⟩, fun _ _ h _ _ => h, fun _ h => h, fun b h => (le b h).1, fun j es hj => ?_⟩, r⟩
  · rw [List.length_set]
    exact ok.len
  · rcases get_set hj with ⟨h1, h2⟩ | ⟨h1, h2⟩
    · cases h2
      subst h1
      exact ⟨_, ev, r⟩
    · obtain ⟨w, ew, rw'⟩ := ok.val j s h2
      refine ⟨w, ew, ?_⟩
      cases s with
      | pv d => exact Rp.goes g _ _ rw'
      | ow es => obtain ⟨b, qs, f1, f2, f3⟩ := rw'; exact ⟨b, qs, f1, f2, Rps.goes g _ _ f3⟩
      | io es => obtain ⟨b, qs, f1, f2, f3⟩ := rw'; exact ⟨b, qs, f1, f2, Rps.goes g _ _ f3⟩
      | sc ns => obtain ⟨b, f1, f2⟩ := rw'; exact ⟨b, f1, f2.goes g id⟩
  · rcases get_set hj with ⟨h1, h2⟩ | ⟨h1, h2⟩
    · cases h2
      cases ms
    · rcases get_set hk with ⟨h3, h4⟩ | ⟨h3, h4⟩
      · cases h4
        cases mt
      · exact ok.inj j k s t b h2 ms h4 mt hbj hbk
  · refine ⟨es, ?_⟩
    by_cases hij : i = j
    · subst hij
      rw [e] at hj
      cases hj
    · rw [List.getElem?_set_ne hij]
      exact hj
theorem de_var {x : Str} {pos : Pos} {i : Nat} (h : PE X (.Name x pos) (tVar i)) : DE X W (.Name x pos) (dVar i) := fun O0 =>
  PE.imp h fun σ H Q ⟨env, ok, q⟩ => by
    unfold dVar at q
    split at q
    · rename_i v e
      obtain ⟨p, ep, r⟩ := ok.val i _ e
      exact ⟨p, ep, q H (StpE.refl ok) p r⟩
    · rename_i ds e
      obtain ⟨p, ep, st, r⟩ := freeze ok e
      exact ⟨p, ep, q H st p r⟩
    · exact q.elim
end
end TL

namespace TL
open PySem PySem.Spec PyProof.Rows L2
variable [Tbl]

section
variable {K : PySem.W.Frag} {O0 : Addr → Prop} {env : En} {σ : L2.St} {H : Hp} {p : Addr} {o : HO}
omit [Tbl] in
theorem IsDic.new {a : Addr} (hp : H p = none) (h : IsDic H a) : IsDic (upd H p o) a := h.elim (fun ⟨k, h⟩ => .inl ⟨k, by rw [upd_ne (ne_of_none h hp)]; exact h⟩) fun ⟨k, h, d⟩ => .inr ⟨k, by rw [upd_ne (ne_of_none h hp)]; exact h, d⟩
omit [Tbl] in
theorem Goes.new {O : Addr → Prop} (hp : H p = none) : Goes K O H O (upd H p o) :=
  ⟨fun a xs h n => ⟨by rw [upd_ne (ne_of_none h hp)]; exact h, n⟩, fun a xs h => by
    rcases h with (h | ⟨u, h⟩) | h
    · exact .inl (.inl (by rw [upd_ne (ne_of_none h hp)]; exact h))
    · exact .inl (.inr ⟨u, by rw [upd_ne (ne_of_none h hp)]; exact h⟩)
    · exact .inr h, fun a h => IsDic.new hp h⟩
omit [Tbl] in
theorem SqS.new {a : Addr} {xs : List V} (hp : H p = none) (h : SqS K H a xs) : SqS K (upd H p o) a xs := by
  rcases h with ⟨u, h⟩ | h
  · exact .inl ⟨u, by rw [upd_ne (ne_of_none h hp)]; exact h⟩
  · exact .inr h
omit [Tbl] in
theorem RS.new {O : Addr → Prop} (hp : H p = none) : ∀ {s : Sl} {v : V}, RS K O H s v → RS K O (upd H p o) s v
  | .pv d, v, r => Rp.goes (Goes.new hp) d v r
  | .ow ds, v, ⟨a, ps, h1, h2, h3⟩ => ⟨a, ps, h1, by rw [upd_ne (ne_of_none h2 hp)]; exact h2, Rps.goes (Goes.new hp) _ _ h3⟩
  | .io ds, v, ⟨a, ps, h1, h2, h3⟩ => ⟨a, ps, h1, by rw [upd_ne (ne_of_none h2 hp)]; exact h2, Rps.goes (Goes.new hp) _ _ h3⟩
  | .sc ns, v, ⟨a, h1, h2⟩ => ⟨a, h1, h2.goes (Goes.new hp) (SqS.new hp)⟩
theorem Ok.new (ok : Ok K O0 env σ H) (hp : H p = none) : Ok K O0 env σ (upd H p o) :=
  ⟨ok.len, fun i s e => by
    obtain ⟨v, ev, r⟩ := ok.val i s e
    exact ⟨v, ev, RS.new hp r⟩, ok.inj, fun a h => by
    obtain ⟨xs, e⟩ := ok.lst a h
    exact ⟨xs, by rw [upd_ne (ne_of_none e hp)]; exact e⟩, ok.dis, ok.tabs fun a u h _ => by rw [upd_ne (ne_of_none h hp)]; exact h⟩
theorem StpE.new (ok : Ok K O0 env σ H) (hp : H p = none) : StpE K O0 env σ H env (upd H p o) :=
  ⟨ok.new hp, fun a u h _ _ => by rw [upd_ne (ne_of_none h hp)]; exact h, fun a h => by
    by_cases e : a = p
    · subst e
      exact absurd hp h
    · rw [upd_ne e]
      exact h, fun a h => h, fun i ds e => ⟨ds, e⟩⟩
omit [Tbl] in
theorem Rp.newT (hp : H p = none) {ds : List PyData} {xs : List V} {O : Addr → Prop} (r : Rps K O H ds xs) : Rp K O (upd H p (.tup xs)) (.tuple ds) (.ref p) :=
  .tup (.inl (.inl upd_same)) (Rps.goes (Goes.new hp) _ _ r)
theorem Rp.newL (ok : Ok K O0 env σ H) (hp : H p = none) {ds : List PyData} {xs : List V} (r : Rps K (Al O0 env σ) H ds xs) : Rp K (Al O0 env σ) (upd H p (.lst xs)) (.list ds) (.ref p) :=
  .lst upd_same (fun z => by obtain ⟨ys, e⟩ := ok.al z; rw [hp] at e; cases e) (Rps.goes (Goes.new hp) _ _ r)
end

def OpD (K : PySem.W.Frag) (rel : R2) (g : PyData → PyData → Option PyData) : Prop :=
  ∀ (O0 : Addr → Prop) (env : En) (σ : L2.St) (H : Hp) (v w u : PyData) (p q : V) (Q : VK), Ok K O0 env σ H → Rp K (Al O0 env σ) H v p → Rp K (Al O0 env σ) H w q → g v w = some u →
    (∀ H' p', StpE K O0 env σ H env H' → Rp K (Al O0 env σ) H' u p' → Q p' H') → rel p q H Q
def dOp (g : PyData → PyData → Option PyData) (a b : D) : D := fun env => (a env).bind fun (v, e1) => (b e1).bind fun (w, e2) => (Out.of (g v w)).bind fun u => .ok (u, e2)

section
variable {X : Cx} {W : WX} {a b : Expr} {da db : D} {g : PyData → PyData → Option PyData} {r : R2} {pos : Pos}
theorem op_end {O0 : Addr → Prop} (od : OpD X.K r g) {env : En} {σ : L2.St} {H : Hp} {Q : VK} (ok : Ok X.K O0 env σ H)
    (q : EndE (Cx.pm X W O0) env σ H (fun v env' H' => ∀ p, Rp X.K (Al O0 env' σ) H' v p → Q p H') (dOp g da db env)) : tOp r (tD (Cx.pm X W O0) da) (tD (Cx.pm X W O0) db) σ H Q := by
  refine ⟨env, ok, EndE.bind q fun v e1 H1 s1 q1 p rp => ⟨e1, s1.ok, EndE.bind q1 fun w e2 H2 s2 q2 p2 rp2 => ?_⟩⟩
  cases hg : g v w with
  | none =>
    simp only [hg, Out.of_none, Out.bind_stuck] at q2
    exact (show False from q2).elim
  | some u =>
    simp only [hg, Out.of_some, Out.bind_ok] at q2
    exact od O0 e2 σ H2 v w u p p2 Q s2.ok (s2.step.rp s1.ok rp) rp2 hg fun H' p' s3 r3 => q2 H' s3 p' r3
theorem de_op {op : Operator} (ho : OpR X (binaryOp op) r) (od : OpD X.K r g) (ha : DE X W a da) (hb : DE X W b db) : DE X W (.BinOp a op b pos) (dOp g da db) := fun O0 =>
  PE.imp (pe_op ho (ha O0) (hb O0)) fun σ H Q ⟨env, ok, q⟩ => op_end od ok q
theorem de_cmp {op : CmpOp} (ho : OpR X (compareOp op) r) (od : OpD X.K r g) (ha : DE X W a da) (hb : DE X W b db) (hm : behindInMarks op b = false) : DE X W (.Compare a [op] [b] pos) (dOp g da db) := fun O0 =>
  PE.imp (pe_cmpR ho (ha O0) (hb O0) hm) fun σ H Q ⟨env, ok, q⟩ => op_end od ok q
def dBool (d : D) : DT := fun env => (d env).bind fun (v, e1) => match v with
  | .bool b => .ok (b, e1)
  | _ => .stuck
theorem dt_cmp {op : CmpOp} (ho : OpR X (compareOp op) r) (od : OpD X.K r g) (ha : DE X W a da) (hb : DE X W b db) (hm : behindInMarks op b = false) : DTe X W (.Compare a [op] [b] pos) (dBool (dOp g da db)) := fun O0 =>
  PT.imp (pt_cmpR ho (ha O0) (hb O0) hm) fun σ H Q ⟨env, ok, q⟩ => op_end od ok (EndE.bind q fun v e1 H1 s1 q1 p rp => by
    cases v with
    | bool b =>
      cases rp
      exact ⟨b, rfl, q1 H1 (StpE.refl s1.ok)⟩
    | _ => exact q1.elim)
theorem OpD.or {K : PySem.W.Frag} {r r' : R2} {g g' : PyData → PyData → Option PyData} (h : OpD K r g) (h' : OpD K r' g') : OpD K (fun x y H Q => r x y H Q ∨ r' x y H Q) (fun v w => (g v w).or (g' v w)) := fun O0 env σ H v w u p q Q ok rp rq e k => by
  replace e : (g v w).or (g' v w) = some u := e
  cases hg : g v w with
  | some z =>
    rw [hg] at e
    cases e
    exact .inl (h O0 env σ H v w u p q Q ok rp rq hg k)
  | none =>
    rw [hg] at e
    exact .inr (h' O0 env σ H v w u p q Q ok rp rq e k)
theorem OpD.sub {K : PySem.W.Frag} {r : R2} {g g' : PyData → PyData → Option PyData} (h : OpD K r g) (i : ∀ v w u, g' v w = some u → g v w = some u) : OpD K r g' := fun O0 env σ H v w u p q Q ok rp rq e k =>
  h O0 env σ H v w u p q Q ok rp rq (i _ _ _ e) k
end

def gI (C : Int → Int → Prop) [∀ i j, Decidable (C i j)] (f : Int → Int → PyData) : PyData → PyData → Option PyData
  | .int i, .int j => if C i j then some (f i j) else none
  | _, _ => none
theorem od_I {K : PySem.W.Frag} {C : Int → Int → Prop} [∀ i j, Decidable (C i j)] {f : Int → Int → PyData} {fV : Int → Int → V} (hf : ∀ i j O H, Rp K O H (f i j) (fV i j)) : OpD K (rI C fV) (gI C f) := fun O0 env σ H v w u p q Q ok rp rq e k => by
  unfold gI at e
  split at e
  · cases rp
    cases rq
    split at e
    · cases e
      exact ⟨_, _, rfl, rfl, by assumption, k H _ (StpE.refl ok) (hf _ _ _ _)⟩
    · cases e
  · cases e
def gI0 (f : Int → Int → PyData) : PyData → PyData → Option PyData
  | .int i, .int j => some (f i j)
  | _, _ => none
theorem od_I0 {K : PySem.W.Frag} {f : Int → Int → PyData} {fV : Int → Int → V} (hf : ∀ i j O H, Rp K O H (f i j) (fV i j)) : OpD K (rI0 fV) (gI0 f) := fun O0 env σ H v w u p q Q ok rp rq e k => by
  unfold gI0 at e
  split at e
  · cases rp
    cases rq
    cases e
    exact ⟨_, _, rfl, rfl, k H _ (StpE.refl ok) (hf _ _ _ _)⟩
  · cases e

def MulOk (i j : Int) : Prop := ((-(2 ^ 64) < i ∧ i < 2 ^ 64) ∨ (-(2 ^ 64) < j ∧ j < 2 ^ 64)) ∨ i.natAbs.log2 + j.natAbs.log2 < 1000000
instance : ∀ i j, Decidable (MulOk i j) := fun _ _ => inferInstanceAs (Decidable (_ ∨ _))
def DivOk (_ j : Int) : Prop := j ≠ 0 ∧ j.natAbs.log2 < 9000
instance : ∀ i j, Decidable (DivOk i j) := fun _ _ => inferInstanceAs (Decidable (_ ∧ _))
def ModOk (_ j : Int) : Prop := j ≠ 0
instance : ∀ i j, Decidable (ModOk i j) := fun _ j => inferInstanceAs (Decidable (j ≠ 0))
def PowOk (i j : Int) : Prop := 0 ≤ j ∧ j ≤ 1000000 ∧ i.natAbs < 2 ^ 64
instance : ∀ i j, Decidable (PowOk i j) := fun _ _ => inferInstanceAs (Decidable (_ ∧ _))
section
variable {X : Cx} {W : WX} {a b : Expr} {da db : D} {pos : Pos}
omit [Tbl] in
theorem orR {f : Value → Value → Sem Value} {C C' : Int → Int → Prop} {g : Int → Int → V} (h : OpR X f (rI C g)) (h' : OpR X f (rI C' g)) : OpR X f (rI (fun i j => C i j ∨ C' i j) g) := by
  intro pins s σ H x y v u Q I rx ry ⟨i, j, e1, e2, c, q⟩
  rcases c with c | c
  · exact h pins s σ H x y v u Q I rx ry ⟨i, j, e1, e2, c, q⟩
  · exact h' pins s σ H x y v u Q I rx ry ⟨i, j, e1, e2, c, q⟩
def pySub := gI0 fun i j => .int (i - j)
def pyMul := gI MulOk fun i j => .int (i * j)
def pyDiv := gI DivOk fun i j => .int (i.fdiv j)
omit [Tbl] in
theorem op_fdivG {X : Cx} : OpR X (binaryOp .FloorDiv) (rI DivOk fun i j => .int (i.fdiv j)) := opI fun _ _ _ _ _ _ _ hc q => floordiv_int hc.1 q (.inl (PyProof.noPylong_of_log2 hc.2))
def pyMod := gI ModOk fun i j => .int (i.fmod j)
def pyPow := gI PowOk fun i j => .int (i ^ j.toNat)
theorem de_sub (ha : DE X W a da) (hb : DE X W b db) : DE X W (.BinOp a .Sub b pos) (dOp pySub da db) := de_op op_sub (od_I0 fun _ _ _ _ => .int _) ha hb
theorem de_mul (ha : DE X W a da) (hb : DE X W b db) : DE X W (.BinOp a .Mult b pos) (dOp pyMul da db) := de_op (orR op_mul op_mulW) (od_I (C := MulOk) fun _ _ _ _ => .int _) ha hb
theorem de_div (ha : DE X W a da) (hb : DE X W b db) : DE X W (.BinOp a .FloorDiv b pos) (dOp pyDiv da db) := de_op op_fdivG (od_I (C := DivOk) fun _ _ _ _ => .int _) ha hb
theorem de_mod (ha : DE X W a da) (hb : DE X W b db) : DE X W (.BinOp a .Mod b pos) (dOp pyMod da db) := de_op op_modN (od_I (C := ModOk) fun _ _ _ _ => .int _) ha hb
theorem de_pow (ha : DE X W a da) (hb : DE X W b db) : DE X W (.BinOp a .Pow b pos) (dOp pyPow da db) := de_op op_pow (od_I (C := PowOk) fun _ _ _ _ => .int _) ha hb
end

def pyAdd : PyData → PyData → Option PyData
  | .int i, .int j => some (.int (i + j))
  | .str x, .str y => if x.length + y.length ≤ sizeLine then some (.str (x ++ y)) else none
  | .tuple xs, .tuple ys => if xs.length + ys.length ≤ sizeLine then some (.tuple (xs ++ ys)) else none
  | .list xs, .list ys => if xs.length + ys.length ≤ sizeLine then some (.list (xs ++ ys)) else none
  | _, _ => none
theorem od_str {K : PySem.W.Frag} : OpD K (fun x y H Q => ∃ i j, x = .str i ∧ y = .str j ∧ i.length + j.length ≤ sizeLine ∧ Q (.str (i ++ j)) H) (fun v w => match v, w with
    | .str x, .str y => if x.length + y.length ≤ sizeLine then some (.str (x ++ y)) else none
    | _, _ => none) := fun O0 env σ H v w u p q Q ok rp rq e k => by
  dsimp only at e
  split at e
  · cases rp
    cases rq
    split at e
    · cases e
      exact ⟨_, _, rfl, rfl, by assumption, k H _ (StpE.refl ok) (.str _)⟩
    · cases e
  · cases e
theorem od_tup {K : PySem.W.Frag} : OpD K (rCatA K) (fun v w => match v, w with
    | .tuple xs, .tuple ys => if xs.length + ys.length ≤ sizeLine then some (.tuple (xs ++ ys)) else none
    | _, _ => none) := fun O0 env σ H v w u p q Q ok rp rq e k => by
  dsimp only at e
  split at e
  · cases rp with
    | tup h1 h2 =>
    cases rq with
    | tup h3 h4 =>
    split at e
    · cases e
      rename_i hl
      refine ⟨_, _, _, _, rfl, rfl, h1, h3, by rw [← h2.length, ← h4.length]; exact hl, fun z => ?_, fun z z' => ?_, fun _ _ p hp => ?_⟩
      · subst z
        cases h2
        exact k H _ (StpE.refl ok) (.tup h3 h4)
      · subst z'
        cases h4
        rw [List.append_nil] at k
        exact k H _ (StpE.refl ok) (.tup h1 h2)
      · exact k _ _ (StpE.new ok hp) (Rp.newT hp (h2.append h4))
    · cases e
  · cases e
theorem od_list {K : PySem.W.Frag} : OpD K rCat (fun v w => match v, w with
    | .list xs, .list ys => if xs.length + ys.length ≤ sizeLine then some (.list (xs ++ ys)) else none
    | _, _ => none) := fun O0 env σ H v w u p q Q ok rp rq e k => by
  dsimp only at e
  split at e
  · cases rp with
    | lst h1 h1' h2 =>
    cases rq with
    | lst h3 h3' h4 =>
    split at e
    · cases e
      rename_i hl
      exact ⟨_, _, _, _, rfl, rfl, h1, h3, by rw [← h2.length, ← h4.length]; exact hl, fun p hp => k _ _ (StpE.new ok hp) (Rp.newL ok hp (h2.append h4))⟩
    · cases e
  · cases e
omit [Tbl] in
theorem pyAdd_sub (v w u : PyData) (h : pyAdd v w = some u) : (((gI0 fun i j => .int (i + j)) v w).or (((fun v w => match v, w with
    | .str x, .str y => if x.length + y.length ≤ sizeLine then some (.str (x ++ y)) else none
    | _, _ => none : PyData → PyData → Option PyData) v w).or (((fun v w => match v, w with
    | .tuple xs, .tuple ys => if xs.length + ys.length ≤ sizeLine then some (.tuple (xs ++ ys)) else none
    | _, _ => none : PyData → PyData → Option PyData) v w).or ((fun v w => match v, w with
    | .list xs, .list ys => if xs.length + ys.length ≤ sizeLine then some (.list (xs ++ ys)) else none
    | _, _ => none : PyData → PyData → Option PyData) v w)))) = some u := by
  cases v <;> cases w <;> first | exact h | (simp only [pyAdd] at h; split at h <;> simp_all [gI0]; done) | cases h
section
variable {X : Cx} {W : WX} {a b : Expr} {da db : D} {pos : Pos}
theorem de_add (ha : DE X W a da) (hb : DE X W b db) : DE X W (.BinOp a .Add b pos) (dOp pyAdd da db) :=
  de_op (op_add.or (op_add_str.or (op_catA.or op_cat))) (OpD.sub (OpD.or (od_I0 fun _ _ _ _ => .int _) (OpD.or od_str (OpD.or od_tup od_list))) pyAdd_sub) ha hb

def pyLt : PyData → PyData → Option PyData
  | .int i, .int j => some (.bool (decide (i < j)))
  | _, _ => none
def pyLe : PyData → PyData → Option PyData
  | .int i, .int j => some (.bool (decide (i ≤ j)))
  | _, _ => none
def pyGt : PyData → PyData → Option PyData
  | .int i, .int j => some (.bool (decide (j < i)))
  | _, _ => none
def pyGe : PyData → PyData → Option PyData
  | .int i, .int j => some (.bool (decide (j ≤ i)))
  | _, _ => none
def pyEq (v w : PyData) : Option PyData := if SeqAt.shaped v = true ∧ SeqAt.shaped w = true then some (.bool (PyData.eqv v w)) else none
def pyNe (v w : PyData) : Option PyData := if SeqAt.shaped v = true ∧ SeqAt.shaped w = true then some (.bool (!PyData.eqv v w)) else none
def pyIs : PyData → PyData → Option PyData
  | v, .none => some (.bool (match v with | .none => true | _ => false))
  | .bool b, .bool c => some (.bool (decide (b = c)))
  | _, _ => none
def pyIsNot : PyData → PyData → Option PyData
  | v, .none => some (.bool (match v with | .none => false | _ => true))
  | .bool b, .bool c => some (.bool (!decide (b = c)))
  | _, _ => none
theorem odB {K : PySem.W.Frag} {f : Int → Int → Bool} : OpD K (rI0 fun i j => .bl (f i j)) (gI0 fun i j => .bool (f i j)) := od_I0 fun _ _ _ _ => .bl _
theorem od_lt {K : PySem.W.Frag} : OpD K (rI0 fun i j => .bl (decide (i < j))) pyLt := OpD.sub odB fun v w u h => by cases v <;> cases w <;> first | exact h | cases h
theorem od_le {K : PySem.W.Frag} : OpD K (rI0 fun i j => .bl (decide (i ≤ j))) pyLe := OpD.sub odB fun v w u h => by cases v <;> cases w <;> first | exact h | cases h
theorem od_gt {K : PySem.W.Frag} : OpD K (rI0 fun i j => .bl (decide (j < i))) pyGt := OpD.sub odB fun v w u h => by cases v <;> cases w <;> first | exact h | cases h
theorem od_ge {K : PySem.W.Frag} : OpD K (rI0 fun i j => .bl (decide (j ≤ i))) pyGe := OpD.sub odB fun v w u h => by cases v <;> cases w <;> first | exact h | cases h
theorem od_eq {K : PySem.W.Frag} : OpD K (rEqD K) pyEq := fun O0 env σ H v w u p q Q ok rp rq e k => by
  unfold pyEq at e
  split at e
  · rename_i h
    cases e
    exact ⟨v, w, rp.dp _ _ (nd_sh h.1), rq.dp _ _ (nd_sh h.2), h.1, h.2, k H _ (StpE.refl ok) (.bl _)⟩
  · cases e
theorem od_ne {K : PySem.W.Frag} : OpD K (rNeD K) pyNe := fun O0 env σ H v w u p q Q ok rp rq e k => by
  unfold pyNe at e
  split at e
  · rename_i h
    cases e
    exact ⟨v, w, rp.dp _ _ (nd_sh h.1), rq.dp _ _ (nd_sh h.2), h.1, h.2, k H _ (StpE.refl ok) (.bl _)⟩
  · cases e
def rIsA : R2 := fun x y H Q => (y = .non ∧ Q (.bl (decide (x = .non))) H) ∨ rIsB x y H Q
def rNotA : R2 := fun x y H Q => (y = .non ∧ Q (.bl (!decide (x = .non))) H) ∨ rNotB x y H Q
theorem od_is {K : PySem.W.Frag} : OpD K rIsA pyIs := fun O0 env σ H v w u p q Q ok rp rq e k => by
  unfold pyIs at e
  split at e
  · cases rq
    cases e
    refine .inl ⟨rfl, k H _ (StpE.refl ok) ?_⟩
    cases rp <;> exact .bl _
  · cases rp
    cases rq
    cases e
    exact .inr ⟨_, _, rfl, rfl, k H _ (StpE.refl ok) (.bl _)⟩
  · cases e
theorem od_isnot {K : PySem.W.Frag} : OpD K rNotA pyIsNot := fun O0 env σ H v w u p q Q ok rp rq e k => by
  unfold pyIsNot at e
  split at e
  · cases rq
    cases e
    refine .inl ⟨rfl, k H _ (StpE.refl ok) ?_⟩
    cases rp <;> exact .bl _
  · cases rp
    cases rq
    cases e
    exact .inr ⟨_, _, rfl, rfl, k H _ (StpE.refl ok) (.bl _)⟩
  · cases e
end
end TL

namespace TL
open PySem PySem.Spec PyProof.Rows L2
variable [Tbl]

structure Gd (X : Cx) (W : WX) (k : Nat) : Prop where
  calm : X.calm = true
  room : Room k X.A
  gd : X.A.guards = some []
  takes : Takes X W
  own : PassesOwn (model X.prog X.w) X.A X.env X.xe
  nd : X.N.Nodup

section
variable {X : Cx} {W : WX} {k : Nat} {a b c e : Expr} {da db dc d : D} {pos : Pos} {rest : List Expr} {t u : DT}
theorem de_le (ha : DE X W a da) (hb : DE X W b db) : DE X W (.Compare a [.LtE] [b] pos) (dOp pyLe da db) := de_cmp op_le od_le ha hb (nomark _)
theorem de_gt (ha : DE X W a da) (hb : DE X W b db) : DE X W (.Compare a [.Gt] [b] pos) (dOp pyGt da db) := de_cmp op_gt od_gt ha hb (nomark _)
theorem de_ge (ha : DE X W a da) (hb : DE X W b db) : DE X W (.Compare a [.GtE] [b] pos) (dOp pyGe da db) := de_cmp op_ge od_ge ha hb (nomark _)
theorem de_eq (G : Gd X W k) (ha : DE X W a da) (hb : DE X W b db) : DE X W (.Compare a [.Eq] [b] pos) (dOp pyEq da db) := de_cmp (op_eqD G.room.units) od_eq ha hb (nomark _)
theorem de_ne (G : Gd X W k) (ha : DE X W a da) (hb : DE X W b db) : DE X W (.Compare a [.NotEq] [b] pos) (dOp pyNe da db) := de_cmp (op_neD G.room.units) od_ne ha hb (nomark _)
theorem de_is (ha : DE X W a da) (hb : DE X W b db) : DE X W (.Compare a [.Is] [b] pos) (dOp pyIs da db) := de_cmp (op_isN.or op_isBl) od_is ha hb (nomark _)
theorem dt_lt (ha : DE X W a da) (hb : DE X W b db) : DTe X W (.Compare a [.Lt] [b] pos) (dBool (dOp pyLt da db)) := dt_cmp op_lt od_lt ha hb (nomark _)
theorem dt_gt (ha : DE X W a da) (hb : DE X W b db) : DTe X W (.Compare a [.Gt] [b] pos) (dBool (dOp pyGt da db)) := dt_cmp op_gt od_gt ha hb (nomark _)
theorem dt_eq (G : Gd X W k) (ha : DE X W a da) (hb : DE X W b db) : DTe X W (.Compare a [.Eq] [b] pos) (dBool (dOp pyEq da db)) := dt_cmp (op_eqD G.room.units) od_eq ha hb (nomark _)
theorem dt_ne (G : Gd X W k) (ha : DE X W a da) (hb : DE X W b db) : DTe X W (.Compare a [.NotEq] [b] pos) (dBool (dOp pyNe da db)) := dt_cmp (op_neD G.room.units) od_ne ha hb (nomark _)
theorem dt_isnot (ha : DE X W a da) (hb : DE X W b db) : DTe X W (.Compare a [.IsNot] [b] pos) (dBool (dOp pyIsNot da db)) := dt_cmp (op_notN.or op_notBl) od_isnot ha hb (nomark _)

def dChain (g g' : PyData → PyData → Option PyData) (a b c : D) : D := fun env => (a env).bind fun (v, e1) => (b e1).bind fun (w, e2) => (Out.of (g v w)).bind fun z => match z with
  | .bool true => (c e2).bind fun (u, e3) => (Out.of (g' w u)).bind fun r => .ok (r, e3)
  | .bool false => .ok (.bool false, e2)
  | _ => .stuck
theorem chain_end {r r' : R2} {g g' : PyData → PyData → Option PyData} {O0 : Addr → Prop} (od : OpD X.K r g) (od' : OpD X.K r' g') {env : En} {σ : L2.St} {H : Hp} {Q : VK} (ok : Ok X.K O0 env σ H)
    (q : EndE (Cx.pm X W O0) env σ H (fun v env' H' => ∀ p, Rp X.K (Al O0 env' σ) H' v p → Q p H') (dChain g g' da db dc env)) : tChain r r' (tD (Cx.pm X W O0) da) (tD (Cx.pm X W O0) db) (tD (Cx.pm X W O0) dc) σ H Q := by
  refine ⟨env, ok, EndE.bind q fun v e1 H1 s1 q1 p rp => ⟨e1, s1.ok, EndE.bind q1 fun w e2 H2 s2 q2 p2 rp2 => ?_⟩⟩
  cases hg : g v w with
  | none =>
    simp only [hg, Out.of_none, Out.bind_stuck] at q2
    exact (show False from q2).elim
  | some z =>
    simp only [hg, Out.of_some, Out.bind_ok] at q2
    refine od O0 e2 σ H2 v w z p p2 _ s2.ok (s2.step.rp s1.ok rp) rp2 hg fun H3 z3 s3 r3 => ?_
    cases z with
    | bool bb =>
      cases r3
      refine ⟨bb, rfl, ?_⟩
      cases bb with
      | false => exact q2 H3 s3 _ (.bl false)
      | true =>
        refine ⟨e2, s3.ok, EndE.bind (EndE.shift s3 q2) fun u e4 H4 s4 q4 p4 rp4 => ?_⟩
        cases hg' : g' w u with
        | none =>
          simp only [hg', Out.of_none, Out.bind_stuck] at q4
          exact (show False from q4).elim
        | some y =>
          simp only [hg', Out.of_some, Out.bind_ok] at q4
          exact od' O0 e4 σ H4 w u y p2 p4 Q s4.ok (s4.step.rp s3.ok (s3.step.rp s2.ok rp2)) rp4 hg' fun H5 p5 s5 r5 => q4 H5 s5 p5 r5
    | _ => exact (show False from q2).elim
theorem de_chain {op op' : CmpOp} {r r' : R2} {g g' : PyData → PyData → Option PyData} (ho : OpR X (compareOp op) r) (ho' : OpR X (compareOp op') r') (od : OpD X.K r g) (od' : OpD X.K r' g') (ha : DE X W a da) (hb : DE X W b db) (hc : DE X W c dc)
    (hm : lastMarks [op, op'] [b, c] = false := by with_unfolding_all rfl) : DE X W (.Compare a [op, op'] [b, c] pos) (dChain g g' da db dc) := fun O0 =>
  PE.imp (pe_chain ho ho' (ha O0) (hb O0) (hc O0) hm) fun σ H Q ⟨env, ok, q⟩ => chain_end od od' ok q
def truth : PyData → Option Bool
  | .none => some false
  | .bool b => some b
  | .int i => some (i != 0)
  | .str x => if x.length ≤ sizeLine then some ((x.length : Int) != 0) else none
  | .list xs => some (!xs.isEmpty)
  | .tuple xs => some (!xs.isEmpty)
  | .dict _ => none
omit [Tbl] in
theorem rps_empty {K : PySem.W.Frag} {O : Addr → Prop} {H : Hp} {ds : List PyData} {ps : List V} (h : Rps K O H ds ps) : ds.isEmpty = ps.isEmpty := by cases h <;> rfl
omit [Tbl] in
theorem truth_ok {K : PySem.W.Frag} {O : Addr → Prop} {H : Hp} : ∀ {d : PyData} {v : V} {b : Bool}, Rp K O H d v → truth d = some b → TruV K v H b := by
  intro d v b r e
  cases r with
  | non => cases e; rfl
  | bl c => cases e; rfl
  | int i => cases e; rfl
  | str x =>
    replace e : (if x.length ≤ sizeLine then some ((x.length : Int) != 0) else none) = some b := e
    by_cases hx : x.length ≤ sizeLine
    · rw [if_pos hx] at e
      cases e
      exact ⟨hx, rfl⟩
    · rw [if_neg hx] at e
      cases e
  | lst h1 h2 h3 => cases e; exact .inl ⟨_, .inl (.inl h1), by rw [rps_empty h3]⟩
  | tup h1 h3 => cases e; exact .inr (.inl ⟨_, h1, by rw [rps_empty h3]⟩)
  | dic h1 => cases e
def dTruth (d : D) : DT := fun env => (d env).bind fun (v, e1) => (Out.of (truth v)).bind fun b => .ok (b, e1)
theorem truth_end {env : En} {σ : L2.St} {H : Hp} {O0 : Addr → Prop} {Q : Bool → Hp → Prop} (ok : Ok X.K O0 env σ H) (q : EndE (Cx.pm X W O0) env σ H (fun b _ H' => Q b H') (dTruth d env)) :
    EndE (Cx.pm X W O0) env σ H (fun v env' H' => ∀ p, Rp X.K (Al O0 env' σ) H' v p → ∃ k, TruV X.K p H' k ∧ Q k H') (d env) :=
  EndE.bind q fun v e1 H1 s1 q1 p rp => by
    cases hg : truth v with
    | none =>
      simp only [hg, Out.of_none, Out.bind_stuck] at q1
      exact (show False from q1).elim
    | some z =>
      simp only [hg, Out.of_some, Out.bind_ok] at q1
      exact ⟨z, truth_ok rp hg, q1 H1 (StpE.refl s1.ok)⟩
theorem dt_truth (ha : DE X W a da) (he : ∀ whole, isTrue a X.env whole = (do let v ← whole; standAt a.pos; holding [v] (truthy v)) := by intro _; rfl) : DTe X W a (dTruth da) := fun O0 =>
  PT.imp (pt_truth (ha O0) he) fun σ H Q ⟨env, ok, q⟩ => ⟨env, ok, truth_end ok q⟩

def dAnd (t u : DT) : DT := fun env => (t env).bind fun (b, e1) => if b = true then u e1 else .ok (false, e1)
def dOr (t u : DT) : DT := fun env => (t env).bind fun (b, e1) => if b = true then .ok (true, e1) else u e1
def dNot (t : DT) : DT := fun env => (t env).bind fun (b, e1) => .ok (!b, e1)
theorem dw_and1 (ha : DTe X W a t) : DWe X W (.BoolOp .And [a] pos) t := fun O0 => pw_and1 (ha O0)
theorem dw_or1 (ha : DTe X W a t) : DWe X W (.BoolOp .Or [a] pos) t := fun O0 => pw_or1 (ha O0)
theorem dw_and (ha : DTe X W a t) (hb : DWe X W (.BoolOp .And (b :: rest) pos) u) : DWe X W (.BoolOp .And (a :: b :: rest) pos) (dAnd t u) := fun O0 =>
  PW.imp (pw_and (ha O0) (hb O0)) fun σ H Q ⟨env, ok, q⟩ => ⟨env, ok, EndE.bind q fun v e1 H1 s1 q1 => by
    cases v with
    | true => exact ⟨e1, s1.ok, q1⟩
    | false => exact q1 H1 (StpE.refl s1.ok)⟩
theorem dw_or (ha : DTe X W a t) (hb : DWe X W (.BoolOp .Or (b :: rest) pos) u) : DWe X W (.BoolOp .Or (a :: b :: rest) pos) (dOr t u) := fun O0 =>
  PW.imp (pw_or (ha O0) (hb O0)) fun σ H Q ⟨env, ok, q⟩ => ⟨env, ok, EndE.bind q fun v e1 H1 s1 q1 => by
    cases v with
    | false => exact ⟨e1, s1.ok, q1⟩
    | true => exact q1 H1 (StpE.refl s1.ok)⟩
theorem dt_w (h : DWe X W a t) : DTe X W a t := fun O0 => (h O0).pt
theorem dt_not (ha : DTe X W a t) : DTe X W (.UnaryOp .Not a pos) (dNot t) := fun O0 =>
  PT.imp (pt_not (ha O0)) fun σ H Q ⟨env, ok, q⟩ => ⟨env, ok, EndE.bind q fun v e1 H1 s1 q1 => q1 H1 (StpE.refl s1.ok)⟩
def dAndV (a b : D) : D := fun env => (a env).bind fun (v, e1) => (Out.of (truth v)).bind fun t => if t = true then b e1 else .ok (v, e1)
def dOrV (a b : D) : D := fun env => (a env).bind fun (v, e1) => (Out.of (truth v)).bind fun t => if t = true then .ok (v, e1) else b e1
def dNotV (a : D) : D := fun env => (a env).bind fun (v, e1) => (Out.of (truth v)).bind fun t => .ok (.bool (!t), e1)
theorem de_one {op} (h : DE X W a da) : DE X W (.BoolOp op [a] pos) da := fun O0 => pe_one (h O0)
theorem de_and (ha : DE X W a da) (hb : DE X W (.BoolOp .And (b :: rest) pos) db) : DE X W (.BoolOp .And (a :: b :: rest) pos) (dAndV da db) := fun O0 =>
  PE.imp (pe_andT (ha O0) (hb O0)) fun σ H Q ⟨env, ok, q⟩ => ⟨env, ok, EndE.bind q fun v e1 H1 s1 q1 p rp => by
    cases hg : truth v with
    | none =>
      simp only [hg, Out.of_none, Out.bind_stuck] at q1
      exact (show False from q1).elim
    | some z =>
      simp only [hg, Out.of_some, Out.bind_ok] at q1
      refine ⟨z, truth_ok rp hg, ?_⟩
      cases z with
      | true => exact ⟨e1, s1.ok, q1⟩
      | false => exact q1 H1 (StpE.refl s1.ok) p rp⟩
theorem de_or (ha : DE X W a da) (hb : DE X W (.BoolOp .Or (b :: rest) pos) db) : DE X W (.BoolOp .Or (a :: b :: rest) pos) (dOrV da db) := fun O0 =>
  PE.imp (pe_orT (ha O0) (hb O0)) fun σ H Q ⟨env, ok, q⟩ => ⟨env, ok, EndE.bind q fun v e1 H1 s1 q1 p rp => by
    cases hg : truth v with
    | none =>
      simp only [hg, Out.of_none, Out.bind_stuck] at q1
      exact (show False from q1).elim
    | some z =>
      simp only [hg, Out.of_some, Out.bind_ok] at q1
      refine ⟨z, truth_ok rp hg, ?_⟩
      cases z with
      | false => exact ⟨e1, s1.ok, q1⟩
      | true => exact q1 H1 (StpE.refl s1.ok) p rp⟩
theorem de_not (ha : DE X W a da) : DE X W (.UnaryOp .Not a pos) (dNotV da) := fun O0 =>
  PE.imp (pe_notT (ha O0)) fun σ H Q ⟨env, ok, q⟩ => ⟨env, ok, EndE.bind q fun v e1 H1 s1 q1 p rp => by
    cases hg : truth v with
    | none =>
      simp only [hg, Out.of_none, Out.bind_stuck] at q1
      exact (show False from q1).elim
    | some z =>
      simp only [hg, Out.of_some, Out.bind_ok] at q1
      exact ⟨z, truth_ok rp hg, q1 H1 (StpE.refl s1.ok) _ (.bl _)⟩⟩
def dIf (t : DT) (a b : D) : D := fun env => (t env).bind fun (v, e1) => if v = true then a e1 else b e1
theorem de_if (hc : DTe X W c t) (ha : DE X W a da) (hb : DE X W b db) : DE X W (.IfExp c a b pos) (dIf t da db) := fun O0 =>
  PE.imp (pe_ifExp (hc O0) (ha O0) (hb O0)) fun σ H Q ⟨env, ok, q⟩ => ⟨env, ok, EndE.bind q fun v e1 H1 s1 q1 => by
    cases v with
    | true => exact ⟨e1, s1.ok, q1⟩
    | false => exact ⟨e1, s1.ok, q1⟩⟩
def dNeg (a : D) : D := fun env => (a env).bind fun (v, e1) => match v with
  | .int i => .ok (.int (-i), e1)
  | _ => .stuck
theorem de_neg (ha : DE X W a da) : DE X W (.UnaryOp .USub a pos) (dNeg da) := fun O0 =>
  PE.imp (pe_un un_neg (ha O0)) fun σ H Q ⟨env, ok, q⟩ => ⟨env, ok, EndE.bind q fun v e1 H1 s1 q1 p rp => by
    cases v with
    | int i =>
      cases rp
      exact ⟨i, rfl, q1 H1 (StpE.refl s1.ok) _ (.int _)⟩
    | _ => exact (show False from q1).elim⟩

def dArgs : List D → DA
  | [] => dNil
  | d :: ds => dCons d (dArgs ds)
omit [Tbl] in
theorem dArgs_len : ∀ (ds : List D) (env : En) (vs : List PyData) (e' : En), dArgs ds env = .ok (vs, e') → vs.length = ds.length
  | [], env, vs, e', h => by
    cases h
    rfl
  | d :: ds, env, vs, e', h => by
    unfold dArgs dCons at h
    cases h1 : d env with
    | ok p =>
      obtain ⟨v, e1⟩ := p
      rw [h1] at h
      simp only [Out.bind_ok] at h
      cases h2 : dArgs ds e1 with
      | ok p =>
        obtain ⟨ws, e2⟩ := p
        rw [h2] at h
        simp only [Out.bind_ok] at h
        cases h
        simp [dArgs_len ds e1 ws _ h2]
      | ex c fs e2 => rw [h2] at h; cases h
      | stuck => rw [h2] at h; cases h
    | ex c fs e2 => rw [h1] at h; cases h
    | stuck => rw [h1] at h; cases h
def dTup (ds : List D) : D := fun env => (dArgs ds env).bind fun (vs, e1) => .ok (.tuple vs, e1)
def dLst (ds : List D) : D := fun env => (dArgs ds env).bind fun (vs, e1) => .ok (.list vs, e1)
theorem args_end {Y : Pm} {env : En} {σ : L2.St} {H : Hp} {ds : List D} {f : List PyData → D} {g : PyData → En → Hp → Prop} {g' : List PyData → En → Hp → Prop} (q : EndE Y env σ H g ((dArgs ds env).bind fun (vs, e1) => f vs e1))
    (i : ∀ vs e' H', vs.length = ds.length → StpE Y.K Y.O0 env σ H e' H' → EndE Y e' σ H' g (f vs e') → g' vs e' H') : EndE Y env σ H g' (dArgs ds env) := by
  cases h : dArgs ds env with
  | ok p =>
    obtain ⟨vs, e1⟩ := p
    rw [h] at q
    exact fun H' s => i vs e1 H' (dArgs_len _ _ _ _ h) s (EndE.shift s q)
  | ex c fs e1 => rw [h] at q; exact q
  | stuck => rw [h] at q; exact q
theorem de_tup {es : List Expr} {ds : List D} {x1} (h : DAs X W es (dArgs ds)) (hl : ds.length ≤ 1000 := by decide) : DE X W (.Tuple es x1 pos) (dTup ds) := fun O0 =>
  PE.imp (pe_tup (h O0)) fun σ H Q ⟨env, ok, q⟩ => ⟨env, ok, args_end (f := fun vs e1 => .ok (.tuple vs, e1)) q fun vs e1 H1 hv s1 q1 ps rps =>
    ⟨by rw [← rps.length, hv]; exact Nat.le_of_lt (small1000 hl), fun p hp => q1 _ (StpE.new s1.ok hp) _ (Rp.newT hp rps)⟩⟩
theorem de_lst {es : List Expr} {ds : List D} (h : DAs X W es (dArgs ds)) (hl : ds.length ≤ 1000 := by decide) : DE X W (.List es pos) (dLst ds) := fun O0 =>
  PE.imp (pe_lst (h O0)) fun σ H Q ⟨env, ok, q⟩ => ⟨env, ok, args_end (f := fun vs e1 => .ok (.list vs, e1)) q fun vs e1 H1 hv s1 q1 ps rps =>
    ⟨by rw [← rps.length, hv]; exact Nat.le_of_lt (small1000 hl), fun p hp => q1 _ (StpE.new s1.ok hp) _ (Rp.newL s1.ok hp rps)⟩⟩
end
end TL

namespace TL
open PySem PySem.Spec PyProof.Rows L2
variable [Tbl]

omit [Tbl] in
theorem rps_at {K : PySem.W.Frag} {O : Addr → Prop} {H : Hp} {ds : List PyData} {ps : List V} (h : Rps K O H ds ps) {i : Int} {d : PyData} (e : atI ds i = some d) : ∃ v, atI ps i = some v ∧ Rp K O H d v := by
  unfold atI at e ⊢
  rw [← h.length]
  cases hj : ixN ds.length i with
  | none => rw [hj] at e; cases e
  | some j =>
    rw [hj] at e
    exact h.get e
def pyIx : PyData → PyData → Option PyData
  | .tuple ds, .int i => atI ds i
  | .list ds, .int i => atI ds i
  | _, _ => none
theorem od_ix {K : PySem.W.Frag} : OpD K (fun x y H Q => rIxL K x y H Q ∨ rIxT K x y H Q) pyIx := fun O0 env σ H v w u p q Q ok rp rq e k => by
  unfold pyIx at e
  split at e
  · cases rq
    cases rp with
    | tup h1 h2 =>
      obtain ⟨z, e1, r⟩ := rps_at h2 e
      exact .inr ⟨_, _, _, z, rfl, rfl, h1, e1, k H z (StpE.refl ok) r⟩
  · cases rq
    cases rp with
    | lst h1 h1' h2 =>
      obtain ⟨z, e1, r⟩ := rps_at h2 e
      exact .inl ⟨_, _, _, z, rfl, rfl, .inl (.inl h1), e1, k H z (StpE.refl ok) r⟩
  · cases e
def Sl.items : Sl → Option (List PyData)
  | .ow ds => some ds
  | .io ds => some ds
  | .sc ns => some (ns.map .int)
  | .pv _ => none
omit [Tbl] in
theorem rps_ints {K : PySem.W.Frag} {O : Addr → Prop} {H : Hp} : ∀ ns : List Int, Rps K O H (ns.map .int) (ns.map V.int)
  | [] => .nil
  | _ :: r => .cons (.int _) (rps_ints r)
omit [Tbl] in
theorem RS.items {K : PySem.W.Frag} {O : Addr → Prop} {H : Hp} {s : Sl} {v : V} {ds : List PyData} (r : RS K O H s v) (e : s.items = some ds) : ∃ a ps, v = .ref a ∧ SqL K H a ps ∧ Rps K O H ds ps := by
  cases s with
  | pv d => cases e
  | ow es => cases e; obtain ⟨a, ps, h1, h2, h3⟩ := r; exact ⟨a, ps, h1, .inl (.inl h2), h3⟩
  | io es => cases e; obtain ⟨a, ps, h1, h2, h3⟩ := r; exact ⟨a, ps, h1, .inl (.inl h2), h3⟩
  | sc ns => cases e; obtain ⟨a, h1, h2⟩ := r; exact ⟨a, _, h1, h2.sq, rps_ints ns⟩
def seqAt (env : En) (i : Nat) : Option (List PyData) := match env[i]? with
  | some (some s) => s.items
  | _ => none
theorem seqAt_ok {K : PySem.W.Frag} {O0 : Addr → Prop} {env : En} {σ : L2.St} {H : Hp} (ok : Ok K O0 env σ H) {i : Nat} {ds : List PyData} (e : seqAt env i = some ds) :
    ∃ a ps, σ[i]? = some (some (.ref a)) ∧ SqL K H a ps ∧ Rps K (Al O0 env σ) H ds ps := by
  unfold seqAt at e
  split at e
  · rename_i s es
    obtain ⟨v, ev, r⟩ := ok.val i s es
    obtain ⟨a, ps, rfl, h2, h3⟩ := r.items e
    exact ⟨a, ps, ev, h2, h3⟩
  · cases e

def ixO : Option (List PyData) → PyData → Option PyData
  | some ds, .int j => atI ds j
  | _, _ => none
def dIxO (i : Nat) (b : D) : D := fun env => (Out.of (seqAt env i)).bind fun _ => (b env).bind fun (w, e1) => (Out.of (ixO (seqAt e1 i) w)).bind fun u => .ok (u, e1)
section
variable {X : Cx} {W : WX} {k : Nat} {a b c e : Expr} {da db dc d : D} {pos p : Pos} {x : Str}
theorem de_ix (ha : DE X W a da) (hb : DE X W b db) (hs : PlainIx b := by exact fun _ _ => rfl) : DE X W (.Subscript a b pos) (dOp pyIx da db) := fun O0 =>
  PE.imp (pe_ix (ix_list.or ix_tup) (ha O0) (hb O0) hs) fun σ H Q ⟨env, ok, q⟩ => op_end od_ix ok q
theorem de_ixO {i : Nat} (ha : PE X a (tVar i)) (hb : DE X W b db) (hs : PlainIx b := by exact fun _ _ => rfl) : DE X W (.Subscript a b pos) (dIxO i db) := fun O0 =>
  PE.imp (pe_ix ix_list ha (hb O0) hs) fun σ H Q ⟨env, ok, q⟩ => by
    obtain ⟨ds0, e0, q⟩ := EndE.of q
    obtain ⟨a0, ps0, es, _, _⟩ := seqAt_ok ok e0
    refine ⟨_, es, env, ok, EndE.bind q fun w e1 H1 s1 q1 p2 rp2 => ?_⟩
    obtain ⟨u, eu, q2⟩ := EndE.of q1
    clear q1
    cases e1s : seqAt e1 i with
    | none => rw [e1s] at eu; cases eu
    | some ds =>
      rw [e1s] at eu
      cases w with
      | int j =>
        obtain ⟨a1, ps, es1, h1, h2⟩ := seqAt_ok s1.ok e1s
        rw [es] at es1
        cases es1
        cases rp2
        obtain ⟨z, ez, rz⟩ := rps_at h2 eu
        exact ⟨_, _, _, z, rfl, rfl, h1, ez, q2 H1 (StpE.refl s1.ok) z rz⟩
      | _ => cases eu

def CaD (K : PySem.W.Frag) (r : List V → Hp → VK → Prop) (g : List PyData → Option PyData) : Prop :=
  ∀ (O0 : Addr → Prop) (env : En) (σ : L2.St) (H : Hp) (vs : List PyData) (u : PyData) (ps : List V) (Q : VK), Ok K O0 env σ H → Rps K (Al O0 env σ) H vs ps → g vs = some u →
    (∀ H' p', StpE K O0 env σ H env H' → Rp K (Al O0 env σ) H' u p' → Q p' H') → r ps H Q
def dCB (g : List PyData → Option PyData) (ds : List D) : D := fun env => (dArgs ds env).bind fun (vs, e1) => (Out.of (g vs)).bind fun u => .ok (u, e1)
theorem cb_end {O0 : Addr → Prop} {r : List V → Hp → VK → Prop} {g : List PyData → Option PyData} {ds : List D} (cd : CaD X.K r g) {env : En} {σ : L2.St} {H : Hp} {Q : VK} (ok : Ok X.K O0 env σ H)
    (q : EndE (Cx.pm X W O0) env σ H (fun v env' H' => ∀ p, Rp X.K (Al O0 env' σ) H' v p → Q p H') (dCB g ds env)) : tCB r (tA (Cx.pm X W O0) (dArgs ds)) σ H Q := by
  refine ⟨env, ok, EndE.bind q fun vs e1 H1 s1 q1 ps rps => ?_⟩
  obtain ⟨u, hg, q1⟩ := EndE.of q1
  exact cd O0 e1 σ H1 vs u ps Q s1.ok rps hg fun H' p' s3 r3 => q1 H' s3 p' r3
theorem de_callB {es : List Expr} {ds : List D} {id : String} {r : List V → Hp → VK → Prop} {g : List PyData → Option PyData} (hc : CallR X (.builtin id) r) (cd : CaD X.K r g) (hv : bootBuiltins x = some (.builtin id)) (hm : X.mg x = none) (ha : DAs X W (e :: es) (dArgs ds)) (hg : Gl X x := by rfl) (hn : x ≠ "__name__" := by decide) (hdb : (x == ("__debug__" : Str)) = false := by decide)
    (he : starEach (e :: es) X.env = (false, eval e X.env) :: starEach es X.env := by rfl) (hpl : (backTo pos (starEach es X.env)).any (·.1) = false := by rfl) : DE X W (.Call (.Name x p) (e :: es) [] pos) (dCB g ds) := fun O0 =>
  PE.imp (pe_callB hc hg hm hv (ha O0) hn hdb he hpl) fun σ H Q ⟨env, ok, q⟩ => cb_end cd ok q
theorem de_callTy {es : List Expr} {ds : List D} {T : String} {r : List V → Hp → VK → Prop} {g : List PyData → Option PyData} (hc : CallR X (.type T) r) (cd : CaD X.K r g) (hv : bootBuiltins x = some (.type T)) (hm : X.mg x = none) (ha : DAs X W (e :: es) (dArgs ds)) (hg : Gl X x := by rfl) (hn : x ≠ "__name__" := by decide) (hdb : (x == ("__debug__" : Str)) = false := by decide)
    (he : starEach (e :: es) X.env = (false, eval e X.env) :: starEach es X.env := by rfl) (hpl : (backTo pos (starEach es X.env)).any (·.1) = false := by rfl) : DE X W (.Call (.Name x p) (e :: es) [] pos) (dCB g ds) := fun O0 =>
  PE.imp (pe_callTy hc hg hm hv (ha O0) hn hdb he hpl) fun σ H Q ⟨env, ok, q⟩ => cb_end cd ok q
theorem de_callF {es : List Expr} {ds : List D} {id : String} {r : List V → Hp → VK → Prop} {g : List PyData → Option PyData} (hc : CallR X (.builtin id) r) (cd : CaD X.K r g) (hm : X.mg x = some (.builtin id)) (ha : DAs X W (e :: es) (dArgs ds)) (hg : Gl X x := by rfl) (hdb : (x == ("__debug__" : Str)) = false := by decide)
    (he : starEach (e :: es) X.env = (false, eval e X.env) :: starEach es X.env := by rfl) (hpl : (backTo pos (starEach es X.env)).any (·.1) = false := by rfl) : DE X W (.Call (.Name x p) (e :: es) [] pos) (dCB g ds) := fun O0 =>
  PE.imp (pe_callBfun hc hg hm (ha O0) hdb he hpl) fun σ H Q ⟨env, ok, q⟩ => cb_end cd ok q

def pyLen : List PyData → Option PyData
  | [.tuple ds] => some (.int ds.length)
  | [.list ds] => some (.int ds.length)
  | [.str z] => if z.length ≤ sizeLine then some (.int z.length) else none
  | _ => none
theorem cd_len {K : PySem.W.Frag} : CaD K (fun xs H Q => (∃ p ys, xs = [.ref p] ∧ (SqL K H p ys ∨ SqT K H p ys) ∧ Q (.int ys.length) H) ∨ (∃ z, xs = [.str z] ∧ z.length ≤ sizeLine ∧ Q (.int z.length) H)) pyLen := fun O0 env σ H vs u ps Q ok rps e k => by
  unfold pyLen at e
  split at e
  · cases e
    cases rps with
    | cons h t => cases t; cases h with
      | tup h1 h2 => exact .inl ⟨_, _, rfl, .inr h1, k H _ (StpE.refl ok) (by rw [← h2.length]; exact .int _)⟩
  · cases e
    cases rps with
    | cons h t => cases t; cases h with
      | lst h1 h1' h2 => exact .inl ⟨_, _, rfl, .inl (.inl (.inl h1)), k H _ (StpE.refl ok) (by rw [← h2.length]; exact .int _)⟩
  · split at e
    · cases e
      cases rps with
      | cons h t => cases t; cases h with
        | str z => exact .inr ⟨_, rfl, by assumption, k H _ (StpE.refl ok) (.int _)⟩
    · cases e
  · cases e
theorem de_len {es : List D} (hm : X.mg "len" = none) (ha : DAs X W [a] (dArgs [da])) (hg : Gl X "len" := by rfl) (he : starEach [a] X.env = (false, eval a X.env) :: starEach [] X.env := by rfl) (hpl : (backTo pos (starEach [] X.env)).any (·.1) = false := by rfl) :
    DE X W (.Call (.Name "len" p) [a] [] pos) (dCB pyLen [da]) := de_callB (call_len_seq.or call_len_str) cd_len boot_len hm ha hg (by decide) (by decide) he hpl
def dLenO (i : Nat) : D := fun env => (Out.of (seqAt env i)).bind fun ds => .ok (.int ds.length, env)
theorem de_lenO {i : Nat} (hm : X.mg "len" = none) (ha : PE X a (tVar i)) (hg : Gl X "len" := by rfl) (he : starEach [a] X.env = (false, eval a X.env) :: starEach [] X.env := by rfl) (hpl : (backTo pos (starEach [] X.env)).any (·.1) = false := by rfl) :
    DE X W (.Call (.Name "len" p) [a] [] pos) (dLenO i) := fun O0 =>
  PE.imp (pe_callB call_len_seq hg hm boot_len (pa_cons ha pa_nil he) (by decide) (by decide) he hpl) fun σ H Q ⟨env, ok, q⟩ => by
    obtain ⟨ds, e0, q⟩ := EndE.of q
    obtain ⟨a0, ps0, es, h1, h2⟩ := seqAt_ok ok e0
    refine ⟨_, es, a0, ps0, rfl, .inl h1, q H (StpE.refl ok) _ ?_⟩
    rw [← h2.length]
    exact .int _

def pyInt : List PyData → Option PyData
  | [.int i] => some (.int i)
  | [.bool b] => some (.int (if b then 1 else 0))
  | _ => none
theorem cd_int {K : PySem.W.Frag} : CaD K (fun xs H Q => (∃ i, xs = [.int i] ∧ Q (.int i) H) ∨ ∃ k, xs = [.bl k] ∧ Q (.int (if k then 1 else 0)) H) pyInt := fun O0 env σ H vs u ps Q ok rps e k => by
  unfold pyInt at e
  split at e
  · cases e
    cases rps with
    | cons h t => cases t; cases h; exact .inl ⟨_, rfl, k H _ (StpE.refl ok) (.int _)⟩
  · cases e
    cases rps with
    | cons h t => cases t; cases h; exact .inr ⟨_, rfl, k H _ (StpE.refl ok) (.int _)⟩
  · cases e
theorem de_intC (hm : X.mg "int" = none) (ha : DAs X W [a] (dArgs [da])) (hg : Gl X "int" := by rfl) (he : starEach [a] X.env = (false, eval a X.env) :: starEach [] X.env := by rfl) (hpl : (backTo pos (starEach [] X.env)).any (·.1) = false := by rfl) :
    DE X W (.Call (.Name "int" p) [a] [] pos) (dCB pyInt [da]) := de_callTy call_int1 cd_int (by decide +kernel) hm ha hg (by decide) (by decide) he hpl

def pyMax2 : List PyData → Option PyData
  | [.int i, .int j] => some (.int (if j > i then j else i))
  | _ => none
def pyMin2 : List PyData → Option PyData
  | [.int i, .int j] => some (.int (if j < i then j else i))
  | _ => none
def pyGcd : List PyData → Option PyData
  | [.int i, .int j] => some (.int (Nat.gcd i.natAbs j.natAbs : Nat))
  | _ => none
def pyAbs : List PyData → Option PyData
  | [.int i] => some (.int (if i < 0 then -i else i))
  | _ => none
theorem cd_2 {K : PySem.W.Frag} {f : Int → Int → Int} {g : List PyData → Option PyData} (hg : ∀ vs u, g vs = some u → ∃ i j, vs = [.int i, .int j] ∧ u = .int (f i j)) : CaD K (fun xs H Q => ∃ i j, xs = [.int i, .int j] ∧ Q (.int (f i j)) H) g := fun O0 env σ H vs u ps Q ok rps e k => by
  obtain ⟨i, j, rfl, rfl⟩ := hg vs u e
  cases rps with
  | cons h t => cases h; cases t with
    | cons h t => cases h; cases t; exact ⟨i, j, rfl, k H _ (StpE.refl ok) (.int _)⟩
theorem cd_abs {K : PySem.W.Frag} : CaD K (fun xs H Q => ∃ i, xs = [.int i] ∧ Q (.int (if i < 0 then -i else i)) H) pyAbs := fun O0 env σ H vs u ps Q ok rps e k => by
  unfold pyAbs at e
  split at e
  · cases e
    cases rps with
    | cons h t => cases t; cases h; exact ⟨_, rfl, k H _ (StpE.refl ok) (.int _)⟩
  · cases e
theorem de_max2 (G : Gd X W k) (hm : X.mg "max" = none) (ha : DAs X W [a, b] (dArgs [da, db])) (hg : Gl X "max" := by rfl) (he : starEach [a, b] X.env = (false, eval a X.env) :: starEach [b] X.env := by rfl) (hpl : (backTo pos (starEach [b] X.env)).any (·.1) = false := by rfl) :
    DE X W (.Call (.Name "max" p) [a, b] [] pos) (dCB pyMax2 [da, db]) := de_callB (call_max2 G.calm) (cd_2 fun vs u e => by unfold pyMax2 at e; split at e <;> cases e; exact ⟨_, _, rfl, rfl⟩) (by decide +kernel) hm ha hg (by decide) (by decide) he hpl
theorem de_abs (hm : X.mg "abs" = none) (ha : DAs X W [a] (dArgs [da])) (hg : Gl X "abs" := by rfl) (he : starEach [a] X.env = (false, eval a X.env) :: starEach [] X.env := by rfl) (hpl : (backTo pos (starEach [] X.env)).any (·.1) = false := by rfl) :
    DE X W (.Call (.Name "abs" p) [a] [] pos) (dCB pyAbs [da]) := de_callB call_abs cd_abs (by decide +kernel) hm ha hg (by decide) (by decide) he hpl
theorem de_gcd (hm : X.mg "gcd" = some (.builtin "math.gcd")) (ha : DAs X W [a, b] (dArgs [da, db])) (hg : Gl X "gcd" := by rfl) (he : starEach [a, b] X.env = (false, eval a X.env) :: starEach [b] X.env := by rfl) (hpl : (backTo pos (starEach [b] X.env)).any (·.1) = false := by rfl) :
    DE X W (.Call (.Name "gcd" p) [a, b] [] pos) (dCB pyGcd [da, db]) := de_callF cr_gcd (cd_2 (f := fun i j => ((Nat.gcd i.natAbs j.natAbs : Nat) : Int)) fun vs u e => by unfold pyGcd at e; split at e <;> cases e; exact ⟨_, _, rfl, rfl⟩) hm ha hg (by decide) he hpl

def tyS : PyData → String
  | .none => "NoneType"
  | .bool _ => "bool"
  | .int _ => "int"
  | .str _ => "str"
  | .list _ => "list"
  | .tuple _ => "tuple"
  | .dict _ => "dict"
inductive TyE (K : PySem.W.Frag) (H : Hp) : V → Value → Prop where
  | x {v : V} {t : Value} (h : TyX K H v t) : TyE K H v t
  | e {a : Addr} {φ : Heap → Prop} (h : H a = some (.ext φ)) (d : ∀ g, φ g → ∃ o, g.get? a = some o ∧ o.cls = .type "dict") : TyE K H (.ref a) (.type "dict")
omit [Tbl] in
theorem kit_ofE {pins : List (Addr × Obj)} {σ : L2.St} {H : Hp} {s : Shared} {x : V} {u t : Value} (I : Inv X pins σ H s) (rx : RelV x u) (ty : TyE X.K H x t) : ∃ P : Heap → Prop, PySem.W.KitX X.K u t P ∧ P s.heap ∧ u ≠ .builtin "__main__.__loader__#opaque" := by
  cases ty with
  | x h => exact kit_of I rx h
  | @e a φ h d =>
    cases (show u = Value.ref a from rx)
    obtain ⟨p, _⟩ := I.hok a _ h
    exact ⟨_, PySem.W.kitx_dict, d _ p, fun z => nomatch z⟩
def rIsiE (K : PySem.W.Frag) : List V → Hp → VK → Prop := fun xs H Q => ∃ (x c : V) (t u : Value) (b : Bool), xs = [x, c] ∧ ClsV c u ∧ TyE K H x t ∧ PySem.W.kitOne K t u = some b ∧ Q (.bl b) H
def rIsiTE (K : PySem.W.Frag) : List V → Hp → VK → Prop := fun xs H Q => ∃ (x : V) (tp : Addr) (cs : List V) (t : Value) (us : List Value) (b : Bool), xs = [x, .ref tp] ∧ H tp = some (.tup cs) ∧ Paired ClsV cs us ∧ TyE K H x t ∧ PySem.W.kitAny K t us = some b ∧ Q (.bl b) H
omit [Tbl] in
theorem call_isiE : CallR X (.builtin "isinstance") (rIsiE X.K) := by
  intro pins s σ H xs us Q I r h
  obtain ⟨x, c, t, u, b, hx, k, ty, e, q⟩ := h
  subst hx
  obtain ⟨u1, u2, hu, r1, r2⟩ := vals2 r
  subst hu
  have e2 := k.eq r2
  subst e2
  obtain ⟨P, Z, p, no⟩ := kit_ofE I r1 ty
  exact PySem.W.kia_one Z I.kIn p e no fun tk => ⟨.bl b, H, I.tok tk, rfl, q⟩
omit [Tbl] in
theorem call_isiTE : CallR X (.builtin "isinstance") (rIsiTE X.K) := by
  intro pins s σ H xs us Q I r h
  obtain ⟨x, tp, cs, t, ws, b, hx, hT, k, ty, e, q⟩ := h
  subst hx
  obtain ⟨u1, u2, hu, r1, r2⟩ := vals2 r
  subst hu
  cases (show u2 = Value.ref tp from r2)
  obtain ⟨P, Z, p, no⟩ := kit_ofE I r1 ty
  obtain ⟨_, its, rv, o, h1, h2, n, h3⟩ := (show ObjOk X.prog X.w H s.heap tp (.tup cs) from I.hok tp _ hT)
  have e3 := ClsV.all k rv
  subst e3
  obtain ⟨oc, od, dt, sl⟩ := o
  dsimp only at h2 h3
  subst h2 h3
  exact PySem.W.kia_tup Z I.kIn p h1 e no fun tk => ⟨.bl b, H, I.tok tk, rfl, q⟩
omit [Tbl] in
theorem rp_ty {K : PySem.W.Frag} {O : Addr → Prop} {H : Hp} : ∀ {d : PyData} {v : V}, Rp K O H d v → TyE K H v (.type (tyS d)) := by
  intro d v r
  cases r with
  | non => exact .x (.base .non)
  | bl b => exact .x (.base (.bl b))
  | int i => exact .x (.base (.int i))
  | str x => exact .x (.base (.str x))
  | lst h1 h2 h3 => exact .x (.base (.lst h1))
  | tup h1 h3 =>
    rcases h1 with (h | ⟨o, h⟩) | ⟨o, its, n, h, hc, _⟩
    · exact .x (.base (.tup h))
    · exact .x (.fTuple h)
    · exact .x (.kTuple h hc)
  | dic h =>
    rcases h with ⟨_, h⟩ | ⟨φ, h, d⟩
    · exact .x (.base (.dK h))
    · exact .e h d
def isA (T : String) (d : PyData) : Option Bool := kitB (tyS d) T
def dIsA (T : String) (d : D) : D := fun env => (d env).bind fun (v, e1) => (Out.of (isA T v)).bind fun b => .ok (.bool b, e1)
omit [Tbl] in
theorem pe_ty {x : Str} {T : String} {pos : Pos} (hg : Gl X x) (hm : X.mg x = none) (hv : bootBuiltins x = some (.type T)) (hn : x ≠ "__name__" := by decide) (hd : (x == ("__debug__" : Str)) = false := by decide) : PE X (.Name x pos) (tC (.ty T)) := pe_bltn hg hm hv rfl hn hd
theorem de_isA {T : String} (hmi : X.mg "isinstance" = none) (ha : DE X W a da) (ht : PE X b (tC (.ty T))) (hg : Gl X "isinstance" := by rfl) (he : starEach [a, b] X.env = (false, eval a X.env) :: starEach [b] X.env := by rfl) (he2 : starEach [b] X.env = (false, eval b X.env) :: starEach [] X.env := by rfl) (hpl : (backTo pos (starEach [b] X.env)).any (·.1) = false := by rfl) :
    DE X W (.Call (.Name "isinstance" p) [a, b] [] pos) (dIsA T da) := fun O0 =>
  PE.imp (pe_callB call_isiE hg hmi (by decide +kernel) (pa_cons (ha O0) (pa_cons ht pa_nil he2) he) (by decide) (by decide) he hpl) fun σ H Q ⟨env, ok, q⟩ => ⟨env, ok, EndE.bind q fun v e1 H1 s1 q1 p rp => by
    obtain ⟨bb, eb, q1⟩ := EndE.of q1
    exact ⟨p, .ty T, _, _, bb, rfl, .ty T, rp_ty rp, kit_ty eb, q1 H1 (StpE.refl s1.ok) _ (.bl _)⟩⟩
def kitL : List String → String → Option Bool
  | [], _ => some false
  | T :: r, t => match kitB t T with
    | some true => some true
    | some false => kitL r t
    | none => none
omit [Tbl] in
theorem kitL_ok {K : PySem.W.Frag} {t : String} : ∀ {Ts : List String} {b : Bool}, kitL Ts t = some b → PySem.W.kitAny K (.type t) (Ts.map .type) = some b
  | [], b, h => by
    cases h
    exact kitAny_nil
  | T :: r, b, h => by
    unfold kitL at h
    cases hk : kitB t T with
    | none => rw [hk] at h; cases h
    | some c =>
      rw [hk] at h
      cases c with
      | true =>
        cases h
        exact kitAny_cons (kit_ty hk) (fun z => nomatch z) fun _ => rfl
      | false => exact kitAny_cons (kit_ty hk) (fun _ => kitL_ok h) fun z => nomatch z
def dIsAny (Ts : List String) (d : D) : D := fun env => (d env).bind fun (v, e1) => (Out.of (kitL Ts (tyS v))).bind fun b => .ok (.bool b, e1)
def PTys (X : Cx) (es : List Expr) (Ts : List String) : Prop := PA X es (fun _ H Q => Q (Ts.map V.ty) H)
omit [Tbl] in
theorem ptys_nil : PTys X [] [] := PA.imp pa_nil fun _ _ _ q => q
omit [Tbl] in
theorem ptys_cons {es : List Expr} {T : String} {Ts : List String} (h : PE X e (tC (.ty T))) (r : PTys X es Ts) (hs : starEach (e :: es) X.env = (false, eval e X.env) :: starEach es X.env := by rfl) : PTys X (e :: es) (T :: Ts) := PA.imp (pa_cons h r hs) fun _ _ _ q => q
omit [Tbl] in
theorem clsv_all : ∀ Ts : List String, Paired ClsV (Ts.map V.ty) (Ts.map Value.type)
  | [] => .nil
  | T :: r => .cons (.ty T) (clsv_all r)
theorem de_isAny {Ts : List String} {es : List Expr} {k1 : Nat} {p1 : Pos} (hmi : X.mg "isinstance" = none) (ha : DE X W a da) (ht : PTys X es Ts) (hl : Ts.length ≤ 1000 := by decide) (hg : Gl X "isinstance" := by rfl) (he : starEach [a, .Tuple es k1 p1] X.env = (false, eval a X.env) :: starEach [.Tuple es k1 p1] X.env := by rfl) (he2 : starEach [.Tuple es k1 p1] X.env = (false, eval (.Tuple es k1 p1) X.env) :: starEach [] X.env := by rfl) (hpl : (backTo pos (starEach [.Tuple es k1 p1] X.env)).any (·.1) = false := by rfl) :
    DE X W (.Call (.Name "isinstance" p) [a, .Tuple es k1 p1] [] pos) (dIsAny Ts da) := fun O0 =>
  PE.imp (pe_callB call_isiTE hg hmi (by decide +kernel) (pa_cons (ha O0) (pa_cons (pe_tup ht) pa_nil he2) he) (by decide) (by decide) he hpl) fun σ H Q ⟨env, ok, q⟩ => ⟨env, ok, EndE.bind q fun v e1 H1 s1 q1 p rp => by
    obtain ⟨bb, eb, q1⟩ := EndE.of q1
    refine ⟨by rw [List.length_map]; exact Nat.le_of_lt (small1000 hl), fun tp hp => ?_⟩
    have s2 := StpE.new (o := .tup (Ts.map V.ty)) s1.ok hp
    exact ⟨p, tp, _, _, _, bb, rfl, upd_same, clsv_all Ts, rp_ty (s2.step.rp s1.ok rp), kitL_ok eb, q1 _ s2 _ (.bl _)⟩⟩
end
end TL

namespace TL
open PySem PySem.Spec PyProof.Rows L2
variable [Tbl]

inductive OutS where
  | nx (env : En)
  | rt (v : PyData) (env : En)
  | rl (ds : List PyData) (env : En)
  | bk (env : En)
  | ct (env : En)
  | ex (c : Str) (fs : List (Str × PyData)) (env : En)
  | stuck
abbrev DS := En → OutS

def With (O0 : Addr → Prop) (a : Addr) : Addr → Prop := fun b => O0 b ∨ b = a
structure Fresh (K : PySem.W.Frag) (O0 : Addr → Prop) (H : Hp) (env' : En) (σ' : L2.St) (H' : Hp) (a : Addr) (ds : List PyData) (ps : List V) : Prop where
  new : H a = none
  ok : Ok K (With O0 a) env' σ' H'
  at' : H' a = some (.lst ps)
  rps : Rps K (Al (With O0 a) env' σ') H' ds ps
def OwnW (env : En) (σ : L2.St) (a : Addr) : Prop := ∃ (i : Nat) (ds : List PyData), env[i]? = some (some (Sl.ow ds)) ∧ σ[i]? = some (some (V.ref a))
structure FreshW (K : PySem.W.Frag) (O0 : Addr → Prop) (env : En) (σ : L2.St) (H : Hp) (env' : En) (σ' : L2.St) (H' : Hp) (a : Addr) (ds : List PyData) (ps : List V) : Prop where
  new : H a = none ∨ OwnW env σ a
  ok : Ok K (With O0 a) env' σ' H'
  at' : H' a = some (.lst ps)
  rps : Rps K (Al (With O0 a) env' σ') H' ds ps
omit [Tbl] in
theorem OwnW.own {env : En} {σ : L2.St} {a : Addr} (h : OwnW env σ a) : Own env σ a := by
  obtain ⟨i, ds, e, f⟩ := h
  exact ⟨i, _, e, rfl, f⟩
theorem OwnW.back {K : PySem.W.Frag} {O0 : Addr → Prop} {env env' : En} {σ σ' : L2.St} {H H' : Hp} {a : Addr} (s : Stp K O0 env σ H env' σ' H') (h : OwnW env' σ' a) : H a = none ∨ OwnW env σ a := by
  rcases s.le a h.own with z | z
  · obtain ⟨i, t, e, m, f⟩ := z
    cases t with
    | pv d => cases m
    | sc ns => cases m
    | ow ds => exact .inr ⟨i, ds, e, f⟩
    | io ds =>
      exfalso
      obtain ⟨j, xs, e2, f2⟩ := h
      obtain ⟨⟨ds', e3⟩, f3⟩ := s.io i ds e
      have k := s.ok.inj i j _ _ a e3 rfl e2 rfl (f3.trans f) f2
      subst k
      rw [e3] at e2
      cases e2
  · exact .inl z
def EndS (Y : Pm) (env : En) (σ : L2.St) (H : Hp) (Dn : Ends) : OutS → Prop
  | .nx env' => ∀ σ' H', Stp Y.K Y.O0 env σ H env' σ' H' → Dn.nx σ' H'
  | .rt v env' => ∀ σ' H' p, Stp Y.K Y.O0 env σ H env' σ' H' → Rp Y.K (Al Y.O0 env' σ') H' v p → Dn.rt p H'
  | .rl ds env' => ∀ σ' H' a ps, Stp Y.K Y.O0 env σ H env' σ' H' → FreshW Y.K Y.O0 env σ H env' σ' H' a ds ps → Dn.rt (.ref a) H'
  | .bk env' => ∀ σ' H', Stp Y.K Y.O0 env σ H env' σ' H' → Dn.bk σ' H'
  | .ct env' => ∀ σ' H', Stp Y.K Y.O0 env σ H env' σ' H' → Dn.ct σ' H'
  | .ex c fs env' => ∀ σ' H' cls d, Stp Y.K Y.O0 env σ H env' σ' H' → XRep Y.mg Y.K (Al Y.O0 env' σ') H' c fs cls d → Y.W cls d σ' H'
  | .stuck => False
def tS (Y : Pm) (d : DS) : TS := fun Dn σ H => ∃ env, Ok Y.K Y.O0 env σ H ∧ EndS Y env σ H Dn (d env)
def DSt (X : Cx) (W : WX) (st : Stmt) (d : DS) : Prop := ∀ O0, PS X st (tS (Cx.pm X W O0) d)
def DSs (X : Cx) (W : WX) (sts : List Stmt) (d : DS) : Prop := ∀ O0, PSs X sts (tS (Cx.pm X W O0) d)

def OutS.then (o : OutS) (f : DS) : OutS := match o with
  | .nx env => f env
  | o => o
omit [Tbl] in
@[simp] theorem OutS.then_nx (env : En) (f : DS) : (OutS.nx env).then f = f env := rfl
omit [Tbl] in
@[simp] theorem OutS.then_rt (v : PyData) (env : En) (f : DS) : (OutS.rt v env).then f = .rt v env := rfl
omit [Tbl] in
@[simp] theorem OutS.then_rl (v : List PyData) (env : En) (f : DS) : (OutS.rl v env).then f = .rl v env := rfl
omit [Tbl] in
@[simp] theorem OutS.then_bk (env : En) (f : DS) : (OutS.bk env).then f = .bk env := rfl
omit [Tbl] in
@[simp] theorem OutS.then_ct (env : En) (f : DS) : (OutS.ct env).then f = .ct env := rfl
omit [Tbl] in
@[simp] theorem OutS.then_ex (c : Str) (fs : List (Str × PyData)) (env : En) (f : DS) : (OutS.ex c fs env).then f = .ex c fs env := rfl
omit [Tbl] in
@[simp] theorem OutS.then_stuck (f : DS) : OutS.stuck.then f = .stuck := rfl
def Out.goS {α : Type} (o : Out (α × En)) (f : α → En → OutS) : OutS := match o with
  | .ok (v, e1) => f v e1
  | .ex c fs env => .ex c fs env
  | .stuck => .stuck
omit [Tbl] in
@[simp] theorem Out.goS_ok {α : Type} (v : α) (e1 : En) (f : α → En → OutS) : (Out.ok (v, e1)).goS f = f v e1 := rfl
omit [Tbl] in
@[simp] theorem Out.goS_ex {α : Type} (c : Str) (fs : List (Str × PyData)) (env : En) (f : α → En → OutS) : (Out.ex c fs env : Out (α × En)).goS f = .ex c fs env := rfl
omit [Tbl] in
@[simp] theorem Out.goS_stuck {α : Type} (f : α → En → OutS) : (Out.stuck : Out (α × En)).goS f = .stuck := rfl
def Out.ofS {β : Type} (o : Option β) (f : β → OutS) : OutS := match o with
  | some u => f u
  | none => .stuck
omit [Tbl] in
@[simp] theorem Out.ofS_some {β : Type} (u : β) (f : β → OutS) : Out.ofS (some u) f = f u := rfl
omit [Tbl] in
@[simp] theorem Out.ofS_none {β : Type} (f : β → OutS) : Out.ofS none f = .stuck := rfl

section
variable {Y : Pm} {env env1 : En} {σ σ1 : L2.St} {H H1 : Hp} {α β : Type} {Dn : Ends}
theorem EndS.shift {o : OutS} (s : Stp Y.K Y.O0 env σ H env1 σ1 H1) (h : EndS Y env σ H Dn o) : EndS Y env1 σ1 H1 Dn o := by
  cases o with
  | nx e => exact fun σ' H' s' => h σ' H' (s.trans s')
  | rt v e => exact fun σ' H' p s' r => h σ' H' p (s.trans s') r
  | rl v e => exact fun σ' H' a ps s' n => h σ' H' a ps (s.trans s') ⟨by
      rcases n.new with w | w
      · left
        cases q : H a with
        | none => rfl
        | some o => exact absurd w (s.dom a (by rw [q]; intro z; cases z))
      · exact w.back s, n.ok, n.at', n.rps⟩
  | bk e => exact fun σ' H' s' => h σ' H' (s.trans s')
  | ct e => exact fun σ' H' s' => h σ' H' (s.trans s')
  | ex c fs e => exact fun σ' H' cls d s' r => h σ' H' cls d (s.trans s') r
  | stuck => exact h
theorem Fresh.w {K : PySem.W.Frag} {O0 : Addr → Prop} {env env' : En} {σ σ' : L2.St} {H H' : Hp} {a : Addr} {ds : List PyData} {ps : List V} (f : Fresh K O0 H env' σ' H' a ds ps) : FreshW K O0 env σ H env' σ' H' a ds ps := ⟨.inl f.new, f.ok, f.at', f.rps⟩
theorem EndE.goS {o : Out (α × En)} {f : α → En → OutS} (q : EndS Y env σ H Dn (o.goS f)) {g : α → En → Hp → Prop}
    (i : ∀ v e' H', StpE Y.K Y.O0 env σ H e' H' → EndS Y e' σ H' Dn (f v e') → g v e' H') : EndE Y env σ H g o := by
  cases o with
  | ok p => obtain ⟨v, e'⟩ := p; exact fun H' s => i v e' H' s (EndS.shift s.step q)
  | ex c fs e' => exact fun H' cls d s r => q σ H' cls d s.step r
  | stuck => exact q
theorem EndS.of {o : Option β} {f : β → OutS} (q : EndS Y env σ H Dn (Out.ofS o f)) : ∃ u, o = some u ∧ EndS Y env σ H Dn (f u) := by
  cases o with
  | none => exact (show False from q).elim
  | some u => exact ⟨u, rfl, q⟩
end

def dPass : DS := fun env => .nx env
def dSeq (a b : DS) : DS := fun env => (a env).then b
section
variable {X : Cx} {W : WX} {k : Nat} {st : Stmt} {rest : List Stmt} {d1 d2 : DS} {e a b c : Expr} {d da db : D} {pos p : Pos} {x : Str}
theorem dss_nil : DSs X W [] dPass := fun O0 => PSs.imp pss_nil fun Dn σ H ⟨env, ok, q⟩ => q σ H (Stp.refl ok)
theorem dss_cons (h1 : DSt X W st d1) (h2 : DSs X W rest d2) : DSs X W (st :: rest) (dSeq d1 d2) := fun O0 =>
  PSs.imp (pss_cons (h1 O0) (h2 O0)) fun Dn σ H ⟨env, ok, q⟩ => ⟨env, ok, by
    unfold dSeq at q
    cases h : d1 env with
    | nx e1 => rw [h] at q; exact fun σ' H' s => ⟨e1, s.ok, EndS.shift s q⟩
    | rt v e1 => rw [h] at q; exact q
    | rl v e1 => rw [h] at q; exact q
    | bk e1 => rw [h] at q; exact q
    | ct e1 => rw [h] at q; exact q
    | ex c fs e1 => rw [h] at q; exact q
    | stuck => rw [h] at q; exact q⟩
theorem dss_one (h1 : DSt X W st d1) : DSs X W [st] d1 := fun O0 => pss_one (h1 O0)
def dExpr (d : D) : DS := fun env => (d env).goS fun _ e1 => .nx e1
theorem ds_expr (he : DE X W e d) (hs : swapsWith e none pos.line X.env = pure false := by rfl) : DSt X W (.Expr e pos) (dExpr d) := fun O0 =>
  PS.imp (ps_expr (he O0) hs) fun Dn σ H ⟨env, ok, q⟩ => ⟨env, ok, EndE.goS q fun v e1 H1 s1 q1 p rp => q1 σ H1 (Stp.refl s1.ok)⟩
def dRet (d : D) : DS := fun env => (d env).goS fun v e1 => .rt v e1
theorem ds_ret (he : DE X W e d) : DSt X W (.Return (some e) pos) (dRet d) := fun O0 =>
  PS.imp (ps_ret (he O0)) fun Dn σ H ⟨env, ok, q⟩ => ⟨env, ok, EndE.goS q fun v e1 H1 s1 q1 p rp => q1 σ H1 p (Stp.refl s1.ok) rp⟩
def dRetN : DS := fun env => .rt .none env
def dIfS (t : DT) (a b : DS) : DS := fun env => (t env).goS fun v e1 => if v = true then a e1 else b e1
theorem ds_if {t : DT} {p q : List Stmt} (hc : DTe X W c t) (ha : DSs X W p d1) (hb : DSs X W q d2) : DSt X W (.If c p q pos) (dIfS t d1 d2) := fun O0 =>
  PS.imp (ps_if (hc O0) (ha O0) (hb O0)) fun Dn σ H ⟨env, ok, q⟩ => ⟨env, ok, EndE.goS q fun v e1 H1 s1 q1 => by
    cases v with
    | true => exact ⟨e1, s1.ok, q1⟩
    | false => exact ⟨e1, s1.ok, q1⟩⟩

def free? (env : En) (i : Nat) : Bool := match env[i]? with
  | some none => true
  | some (some (.pv _)) => true
  | some (some (.ow _)) => true
  | _ => false
def setPv (env : En) (i : Nat) (v : PyData) : Option En := if free? env i = true then some (env.set i (some (.pv v))) else none
omit [Tbl] in
theorem set_own {env : En} {σ : L2.St} {i : Nat} {p : V} {s : Sl} {a : Addr} (h : Own (env.set i (some s)) (σ.set i (some p)) a) :
    (s.mut = true ∧ p = .ref a ∧ i < env.length) ∨ (∃ j t, j ≠ i ∧ env[j]? = some (some t) ∧ t.mut = true ∧ σ[j]? = some (some (.ref a))) := by
  obtain ⟨j, t, hj, m, hs⟩ := h
  by_cases hij : i = j
  · subst hij
    by_cases hl : i < env.length
    · rw [List.getElem?_set_self hl] at hj
      have e1 : s = t := Option.some.inj (Option.some.inj hj)
      subst e1
      by_cases hl2 : i < σ.length
      · rw [List.getElem?_set_self hl2] at hs
        exact .inl ⟨m, Option.some.inj (Option.some.inj hs), hl⟩
      · rw [List.getElem?_eq_none (by simpa using hl2)] at hs
        cases hs
    · rw [List.getElem?_eq_none (by simpa using hl)] at hj
      cases hj
  · rw [List.getElem?_set_ne hij] at hj hs
    exact .inr ⟨j, t, fun z => hij z.symm, hj, m, hs⟩
omit [Tbl] in
theorem get_set2 {env : En} {σ : L2.St} {i j : Nat} {s t : Sl} {p : V} (hl : env.length = σ.length) (h : (env.set i (some s))[j]? = some (some t)) :
    (j = i ∧ t = s ∧ (σ.set i (some p))[j]? = some (some p)) ∨ (j ≠ i ∧ env[j]? = some (some t) ∧ (σ.set i (some p))[j]? = σ[j]?) := by
  rcases get_set h with ⟨h1, h2⟩ | ⟨h1, h2⟩
  · subst h1
    have hi : i < env.length := by
      by_cases hi : i < env.length
      · exact hi
      · rw [List.getElem?_eq_none (by simpa using hi)] at h
        cases h
    exact .inl ⟨rfl, (Option.some.inj h2).symm, List.getElem?_set_self (by omega)⟩
  · exact .inr ⟨fun z => h1 z.symm, h2, List.getElem?_set_ne h1⟩
omit [Tbl] in
theorem RS.goes {K : PySem.W.Frag} {O O' : Addr → Prop} {H H' : Hp} (g : Goes K O H O' H') (hm : ∀ a xs, H a = some (.lst xs) → H' a = some (.lst xs)) (hs : ∀ a (ns : List Int), SqS K H a (ns.map V.int) → SqS K H' a (ns.map V.int)) : ∀ {s : Sl} {v : V}, RS K O H s v → RS K O' H' s v
  | .pv d, v, r => Rp.goes g d v r
  | .ow ds, v, ⟨a, ps, h1, h2, h3⟩ => ⟨a, ps, h1, hm _ _ h2, Rps.goes g _ _ h3⟩
  | .io ds, v, ⟨a, ps, h1, h2, h3⟩ => ⟨a, ps, h1, hm _ _ h2, Rps.goes g _ _ h3⟩
  | .sc ns, v, ⟨a, h1, h2⟩ => ⟨a, h1, h2.goes g (hs _ _)⟩
omit [Tbl] in
theorem free_io {env : En} {i : Nat} (hf : free? env i = true) {ds : List PyData} : env[i]? ≠ some (some (Sl.io ds)) := fun e => by
  unfold free? at hf
  rw [e] at hf
  cases hf
theorem Stp.setPv {K : PySem.W.Frag} {O0 : Addr → Prop} {env : En} {σ : L2.St} {H : Hp} (ok : Ok K O0 env σ H) {i : Nat} {v : PyData} {p : V} (hf : free? env i = true) (r : Rp K (Al O0 env σ) H v p) :
    Stp K O0 env σ H (env.set i (some (.pv v))) (σ.set i (some p)) H := by
  have le : ∀ a, Own (env.set i (some (.pv v))) (σ.set i (some p)) a → Own env σ a := fun a h => by
    rcases set_own h with ⟨m, _⟩ | ⟨j, t, _, h1, h2, h3⟩
    · cases m
    · exact ⟨j, t, h1, h2, h3⟩
  have g : Goes K (Al O0 env σ) H (Al O0 (env.set i (some (.pv v))) (σ.set i (some p))) H := ⟨fun c xs h n => ⟨h, fun z => n (z.elim .inl fun z => .inr (le c z))⟩, fun c xs h => h, fun _ h => h⟩
  refine ⟨⟨by rw [List.length_set, List.length_set]; exact ok.len, fun j s hj => ?_, fun j l s t a hj ms hl mt h1 h2 => ?_, ok.lst, fun a h => ok.dis a (le a h), ok.tab⟩, fun _ _ h _ _ => h, fun _ h => h, fun a h => .inl (le a h), fun j ds hj => ?_⟩
  · rcases get_set2 (p := p) ok.len hj with ⟨h1, h2, h3⟩ | ⟨h1, h2, h3⟩
    · subst h2
      exact ⟨p, h3, Rp.goes g _ _ r⟩
    · obtain ⟨w, ew, rw'⟩ := ok.val j s h2
      exact ⟨w, h3.trans ew, RS.goes g (fun _ _ h => h) (fun _ _ h => h) rw'⟩
  · rcases get_set2 (p := p) ok.len hj with ⟨_, h2', _⟩ | ⟨_, h2', h3⟩
    · subst h2'
      cases ms
    · rcases get_set2 (p := p) ok.len hl with ⟨_, h4', _⟩ | ⟨_, h4', h5⟩
      · subst h4'
        cases mt
      · exact ok.inj j l s t a h2' ms h4' mt (h3.symm.trans h1) (h5.symm.trans h2)
  · have hij : i ≠ j := fun z => free_io hf (z ▸ hj)
    exact ⟨⟨ds, by rw [List.getElem?_set_ne hij]; exact hj⟩, List.getElem?_set_ne hij⟩
omit [Tbl] in
theorem setPv_free {env env' : En} {i : Nat} {v : PyData} (h : TL.setPv env i v = some env') : free? env i = true ∧ env' = env.set i (some (.pv v)) := by
  unfold TL.setPv at h
  split at h
  · cases h
    exact ⟨by assumption, rfl⟩
  · cases h

abbrev DG := PyData → En → Option En
def tG (Y : Pm) (g : DG) : TG := fun p σ H Q => ∃ env v env', Ok Y.K Y.O0 env σ H ∧ Rp Y.K (Al Y.O0 env σ) H v p ∧ g v env = some env' ∧ ∀ σ' H', Stp Y.K Y.O0 env σ H env' σ' H' → Q σ' H'
def tGs (Y : Pm) (g : List PyData → En → Option En) : TGs := fun ps σ H Q => ∃ env vs env', Ok Y.K Y.O0 env σ H ∧ Rps Y.K (Al Y.O0 env σ) H vs ps ∧ g vs env = some env' ∧ ∀ σ' H', Stp Y.K Y.O0 env σ H env' σ' H' → Q σ' H'
def DGt (X : Cx) (tg : Expr) (g : DG) : Prop := ∀ Y : Pm, Y.K = X.K → PG X tg (tG Y g)
def DGs (X : Cx) (tgs : List Expr) (g : List PyData → En → Option En) : Prop := ∀ Y : Pm, Y.K = X.K → PGs X tgs (tGs Y g)
omit [Tbl] in
theorem PG.imp {tg : Expr} {t t' : TG} (h : PG X tg t) (i : ∀ v σ H Q, t' v σ H Q → t v σ H Q) : PG X tg t' := ⟨fun pins s σ H v u Q I r q => h.run pins s σ H v u Q I r (i _ _ _ _ q)⟩
omit [Tbl] in
theorem PGs.imp {tg : List Expr} {t t' : TGs} (h : PGs X tg t) (i : ∀ v σ H Q, t' v σ H Q → t v σ H Q) : PGs X tg t' := ⟨fun pins s σ H v u Q I r q => h.run pins s σ H v u Q I r (i _ _ _ _ q)⟩
def gNm (i : Nat) : DG := fun v env => setPv env i v
theorem dg_name {i : Nat} (h : PG X (.Name x pos) (gName i)) : DGt X (.Name x pos) (gNm i) := fun Y hY => PG.imp h fun p σ H Q ⟨env, v, env', ok, r, e, q⟩ => by
  obtain ⟨hf, rfl⟩ := setPv_free e
  exact q _ _ (Stp.setPv ok hf r)
def gs0 : List PyData → En → Option En := fun vs env => match vs with
  | [] => some env
  | _ => none
def gsC (g : DG) (r : List PyData → En → Option En) : List PyData → En → Option En := fun vs env => match vs with
  | v :: vs => (g v env).bind fun e1 => r vs e1
  | [] => none
theorem dgs_nil : DGs X [] gs0 := fun Y hY => PGs.imp pgs_nil fun ps σ H Q ⟨env, vs, env', ok, r, e, q⟩ => by
  unfold gs0 at e
  split at e
  · cases e
    cases r
    exact ⟨rfl, q σ H (Stp.refl ok)⟩
  · cases e
theorem dgs_cons {es : List Expr} {g : DG} {r : List PyData → En → Option En} (h1 : DGt X e g) (h2 : DGs X es r) (hs : (assignEach (e :: es) X.env).map (·.2) = assign e X.env :: (assignEach es X.env).map (·.2) := by rfl) : DGs X (e :: es) (gsC g r) := fun Y hY =>
  PGs.imp (pgs_cons (h1 Y hY) (h2 Y hY) hs) fun ps σ H Q ⟨env, vs, env', ok, rp, e, q⟩ => by
    unfold gsC at e
    split at e
    · rename_i v vs'
      cases rp with
      | cons r1 r2 =>
      cases hg : g v env with
      | none => rw [hg] at e; cases e
      | some e1 =>
        rw [hg] at e
        exact ⟨_, _, rfl, env, v, e1, ok, r1, hg, fun σ' H' s => ⟨e1, vs', env', s.ok, s.rps ok r2, e, fun σ2 H2 s2 => q σ2 H2 (s.trans s2)⟩⟩
    · cases e
def gTp (n : Nat) (r : List PyData → En → Option En) : DG := fun v env => match v with
  | .tuple ds => if ds.length = n then r ds env else none
  | .list ds => if ds.length = n then r ds env else none
  | _ => none
omit [Tbl] in
theorem pg_both {tg : Expr} {t t' : TG} (h : PG X tg t) (h' : PG X tg t') : PG X tg (fun v σ H Q => t v σ H Q ∨ t' v σ H Q) :=
  ⟨fun pins s σ H v u Q I r hw => hw.elim (fun q => h.run pins s σ H v u Q I r q) (fun q => h'.run pins s σ H v u Q I r q)⟩
theorem dg_tup {es : List Expr} {kk : Nat} {r : List PyData → En → Option En} {n : Nat} (hc : X.calm = true) (h : DGs X es r) (hn : (assignEach es X.env).length = n := by rfl) (hst : (assignEach es X.env).findIdx? (·.1) = none := by rfl) : DGt X (.Tuple es kk pos) (gTp n r) := fun Y hY =>
  PG.imp (pg_both (pg_tup hc (h Y hY) hn hst) (pg_unl hc (h Y hY) hn hst)) fun p σ H Q ⟨env, v, env', ok, rp, e, q⟩ => by
    unfold gTp at e
    split at e
    · split at e
      · cases rp with
        | tup h1 h2 => exact .inl ⟨_, _, rfl, by rw [← hY]; exact h1, by rw [← h2.length]; assumption, env, _, env', ok, h2, e, q⟩
      · cases e
    · split at e
      · cases rp with
        | lst h1 h1' h2 => exact .inr ⟨_, _, rfl, by rw [← hY]; exact .inl (.inl h1), by rw [← h2.length]; assumption, env, _, env', ok, h2, e, q⟩
      · cases e
    · cases e
def dAsg (d : D) (g : DG) : DS := fun env => (d env).goS fun v e1 => Out.ofS (g v e1) fun e2 => .nx e2
theorem asg_end {O0 : Addr → Prop} {g : DG} {env : En} {σ : L2.St} {H : Hp} {Dn : Ends} (ok : Ok X.K O0 env σ H) (q : EndS (Cx.pm X W O0) env σ H Dn (dAsg d g env)) : tAsg (tD (Cx.pm X W O0) d) (tG (Cx.pm X W O0) g) Dn σ H :=
  ⟨env, ok, EndE.goS q fun v e1 H1 s1 q1 p rp => by
    obtain ⟨e2, h2, q2⟩ := EndS.of q1
    exact ⟨e1, v, e2, s1.ok, rp, h2, q2⟩⟩
theorem ds_asg {tg : Expr} {g : DG} (he : DE X W e d) (hg : DGt X tg g) (hs : swapsWithSole [tg] e pos.line X.env = pure false := by rfl) (hw : swappedStores [tg] e X.env = pure none := by rfl)
    (h1 : (assignEach [tg] X.env).map (·.2) = [assign tg X.env] := by rfl) : DSt X W (.Assign [tg] e pos) (dAsg d g) := fun O0 =>
  PS.imp (ps_asg (he O0) (hg (Cx.pm X W O0) rfl) hs hw h1) fun Dn σ H ⟨env, ok, q⟩ => asg_end ok q
theorem ds_set {i : Nat} {p' : Pos} (hN : X.N.Nodup) (hi : X.N[i]? = some x) (hx : Loc X.env.scope x) (he : DE X W e d) (hs : swapsWith e (some (.Name x p')) pos.line X.env = pure false := by rfl) (hf : X.fn x = true ∨ X.env.scope.names.lookup x = some .local := by first | exact .inl rfl | exact .inr rfl | assumption) :
    DSt X W (.Assign [.Name x p'] e pos) (dAsg d (gNm i)) := fun O0 =>
  PS.imp (ps_set hN hi hx (he O0) hs hf) fun Dn σ H ⟨env, ok, q⟩ => ⟨env, ok, EndE.goS q fun v e1 H1 s1 q1 p rp => by
    obtain ⟨e2, h2, q2⟩ := EndS.of q1
    obtain ⟨hfr, rfl⟩ := setPv_free h2
    exact q2 _ _ (Stp.setPv s1.ok hfr rp)⟩
def dAug (i : Nat) (g : PyData → PyData → Option PyData) (d : D) : DS := fun env => match env[i]? with
  | some (some (.pv v)) => (d env).goS fun w e1 => Out.ofS (g v w) fun u => Out.ofS (setPv e1 i u) fun e2 => .nx e2
  | _ => .stuck
theorem ds_aug {i : Nat} {op : Operator} {r : R2} {g : PyData → PyData → Option PyData} {p' : Pos} (ho : OpR X (inplaceOp op) r) (od : OpD X.K r g) (hN : X.N.Nodup) (hi : X.N[i]? = some x) (hx : Loc X.env.scope x) (he : DE X W e d) (hf : X.fn x = true ∨ X.env.scope.names.lookup x = some .local := by first | exact .inl rfl | exact .inr rfl | assumption) :
    DSt X W (.AugAssign (.Name x p') op e pos) (dAug i g d) := fun O0 =>
  PS.imp (ps_aug (ti := r) hN hi hx (he O0) ho hf) fun Dn σ H ⟨env, ok, q⟩ => by
    unfold dAug at q
    split at q
    · rename_i v ev
      obtain ⟨p0, ep, r0⟩ := ok.val i _ ev
      refine ⟨p0, ep, env, ok, EndE.goS q fun w e1 H1 s1 q1 p rp => ?_⟩
      obtain ⟨u, hu, q1⟩ := EndS.of q1
      obtain ⟨e2, h2, q2⟩ := EndS.of q1
      obtain ⟨hfr, rfl⟩ := setPv_free h2
      exact od O0 e1 σ H1 v w u p0 p _ s1.ok (s1.step.rp ok r0) rp hu fun H2 p2 s2 r2 => q2 _ _ (s2.step.trans (Stp.setPv s2.ok hfr r2))
    · exact q.elim
end
end TL

namespace TL
open PySem PySem.Spec PyProof.Rows L2
variable [Tbl]

abbrev DL := En → Out (List PyData × En)
def tF (Y : Pm) (d : DL) : TE := fun σ H Q => ∃ env, Ok Y.K Y.O0 env σ H ∧ EndE Y env σ H (fun ds env' H' => ∀ a ps, Fresh Y.K Y.O0 H env' σ H' a ds ps → Q (.ref a) H') (d env)
def DF (X : Cx) (W : WX) (x : Expr) (d : DL) : Prop := ∀ O0, PE X x (tF (Cx.pm X W O0) d)
section
variable {K : PySem.W.Frag} {O0 : Addr → Prop} {env e' env0 : En} {σ σ' σ0 : L2.St} {H H' H0 : Hp} {a : Addr} {ds : List PyData} {ps : List V}
theorem StpE.no (s : StpE K O0 env σ H e' H') {a : Addr} (h : H' a = none) : H a = none := by
  cases q : H a with
  | none => rfl
  | some o => exact absurd h (s.dom a (by rw [q]; intro z; cases z))
theorem Stp.no (s : Stp K O0 env σ H e' σ' H') {a : Addr} (h : H' a = none) : H a = none := by
  cases q : H a with
  | none => rfl
  | some o => exact absurd h (s.dom a (by rw [q]; intro z; cases z))
omit [Tbl] in
theorem Goes.lay (hp : H a = none) : Goes K (Al O0 env σ) H (Al (With O0 a) env σ) (upd H a (.lst ps)) :=
  ⟨fun b xs h n => ⟨by rw [upd_ne (ne_of_none h hp)]; exact h, fun z => z.elim (fun z => z.elim (fun z => n (.inl z)) fun z => ne_of_none h hp z) fun z => n (.inr z)⟩, (Goes.new (O := Al O0 env σ) hp).2⟩
theorem Ok.goes {O1 : Addr → Prop} (ok : Ok K O0 env σ H) (g : Goes K (Al O0 env σ) H (Al O1 env σ) H') (hm : ∀ a xs, Own env σ a → H a = some (.lst xs) → H' a = some (.lst xs)) (hs : ∀ a (ns : List Int), SqS K H a (ns.map V.int) → SqS K H' a (ns.map V.int))
    (hl : ∀ a, O1 a → ∃ xs, H' a = some (.lst xs)) (hd : ∀ a, Own env σ a → ¬ O1 a) (ht : LamX.Tabs Tbl.T H') : Ok K O1 env σ H' where
  len := ok.len
  val := fun i s e => by
    obtain ⟨v, ev, r⟩ := ok.val i s e
    refine ⟨v, ev, ?_⟩
    cases s with
    | pv d => exact Rp.goes g _ _ r
    | ow es => obtain ⟨a, ps, h1, h2, h3⟩ := r; subst h1; exact ⟨a, ps, rfl, hm _ _ ⟨i, _, e, rfl, ev⟩ h2, Rps.goes g _ _ h3⟩
    | io es => obtain ⟨a, ps, h1, h2, h3⟩ := r; subst h1; exact ⟨a, ps, rfl, hm _ _ ⟨i, _, e, rfl, ev⟩ h2, Rps.goes g _ _ h3⟩
    | sc ns => obtain ⟨a, h1, h2⟩ := r; exact ⟨a, h1, h2.goes g (hs _ _)⟩
  inj := ok.inj
  lst := hl
  dis := hd
  tab := ht
theorem Fresh.lay (ok : Ok K O0 env σ H) (hp : H a = none) (hn : H0 a = none) (r : Rps K (Al O0 env σ) H ds ps) : Fresh K O0 H0 env σ (upd H a (.lst ps)) a ds ps where
  new := hn
  ok := ok.goes (Goes.lay hp) (fun b xs _ h => by rw [upd_ne (ne_of_none h hp)]; exact h) (fun b ns h => SqS.new hp h) (fun b z => z.elim (fun z => by
      obtain ⟨xs, e⟩ := ok.lst b z
      exact ⟨xs, by rw [upd_ne (ne_of_none e hp)]; exact e⟩) fun z => by
      subst z
      exact ⟨ps, upd_same⟩) (fun b h z => z.elim (ok.dis b h) fun z => by
        obtain ⟨xs, e⟩ := ok.own h
        exact ne_of_none e hp z) (ok.tabs fun b o h _ => by rw [upd_ne (ne_of_none h hp)]; exact h)
  at' := upd_same
  rps := Rps.goes (Goes.lay hp) _ _ r
theorem Stp.setOw (ok0 : Ok K O0 env0 σ0 H0) (s0 : Stp K O0 env0 σ0 H0 env σ H) {i : Nat} (hf : free? env i = true) (f : Fresh K O0 H0 env σ H a ds ps) :
    Stp K O0 env0 σ0 H0 (env.set i (some (.ow ds))) (σ.set i (some (.ref a))) H := by
  have ok := s0.ok
  have le : ∀ b, Own (env.set i (some (.ow ds))) (σ.set i (some (.ref a))) b → b = a ∨ Own env σ b := fun b h => by
    rcases set_own h with ⟨_, e, _⟩ | ⟨j, t, _, h1, h2, h3⟩
    · cases e
      exact .inl rfl
    · exact .inr ⟨j, t, h1, h2, h3⟩
  have hna : ¬ Own env σ a := fun z => f.ok.dis a z (.inr rfl)
  have ho0 : ¬ O0 a := fun z => by
    obtain ⟨xs, e⟩ := ok0.lst a z
    rw [f.new] at e
    cases e
  have hre : Goes K (Al (With O0 a) env σ) H (Al O0 (env.set i (some (.ow ds))) (σ.set i (some (.ref a)))) H :=
    ⟨fun b xs h n => ⟨h, fun z => z.elim (fun z => n (.inl (.inl z))) fun z => (le b z).elim (fun z => n (.inl (.inr z))) fun z => n (.inr z)⟩, fun b xs h => h, fun b h => h⟩
  refine ⟨⟨by rw [List.length_set, List.length_set]; exact ok.len, fun j s hj => ?_, fun j l s t b hj ms hl' mt h1 h2 => ?_, ok.lst, fun b h => ?_, ok.tab⟩, fun a o h n nt => s0.keep a o h n nt, s0.dom, fun b h => ?_, fun j es hj => ?_⟩
  · rcases get_set2 (p := .ref a) ok.len hj with ⟨h1, h2, h3⟩ | ⟨h1, h2, h3⟩
    · subst h2
      exact ⟨_, h3, a, ps, rfl, f.at', Rps.goes hre _ _ f.rps⟩
    · obtain ⟨w, ew, rw'⟩ := f.ok.val j s h2
      exact ⟨w, h3.trans ew, RS.goes hre (fun _ _ h => h) (fun _ _ h => h) rw'⟩
  · rcases get_set2 (p := .ref a) ok.len hj with ⟨e1, _, g1⟩ | ⟨e1, h2', h3⟩
    · rcases get_set2 (p := .ref a) ok.len hl' with ⟨e2, _, _⟩ | ⟨e2, h4', h5⟩
      · exact e1.trans e2.symm
      · rw [g1] at h1
        cases h1
        exact absurd ⟨l, t, h4', mt, h5.symm.trans h2⟩ hna
    · rcases get_set2 (p := .ref a) ok.len hl' with ⟨e2, _, g2⟩ | ⟨e2, h4', h5⟩
      · rw [g2] at h2
        cases h2
        exact absurd ⟨j, s, h2', ms, h3.symm.trans h1⟩ hna
      · exact ok.inj j l s t b h2' ms h4' mt (h3.symm.trans h1) (h5.symm.trans h2)
  · rcases le b h with rfl | h
    · exact ho0
    · exact ok.dis b h
  · rcases le b h with rfl | h
    · exact .inr f.new
    · exact s0.le b h
  · obtain ⟨⟨d1, e1⟩, e2⟩ := s0.io j es hj
    have hij : i ≠ j := fun z => free_io hf (z ▸ e1)
    exact ⟨⟨d1, by rw [List.getElem?_set_ne hij]; exact e1⟩, by rw [List.getElem?_set_ne hij]; exact e2⟩
theorem Fresh.rp (f : Fresh K O0 H0 env σ H a ds ps) (ho0 : ¬ O0 a) : Rp K (Al O0 env σ) H (.list ds) (.ref a) :=
  .lst f.at' (fun z => z.elim ho0 fun z => f.ok.dis a z (.inr rfl)) (Rps.goes ⟨fun b xs h n => ⟨h, fun z => n (z.elim (fun z => .inl (.inl z)) .inr)⟩, fun b xs h => h, fun b h => h⟩ _ _ f.rps)
theorem Fresh.no0 (f : Fresh K O0 H0 env σ H a ds ps) (ok0 : Ok K O0 env0 σ0 H0) : ¬ O0 a := fun z => by
  obtain ⟨xs, e⟩ := ok0.lst a z
  rw [f.new] at e
  cases e

def Sl.put : Sl → List PyData → Sl
  | .ow _, ds => .ow ds
  | .io _, ds => .io ds
  | s, _ => s
def ownAt (env : En) (i : Nat) : Option (List PyData) := match env[i]? with
  | some (some (.ow ds)) => some ds
  | some (some (.io ds)) => some ds
  | _ => none
def putOw (env : En) (i : Nat) (ds : List PyData) : En := match env[i]? with
  | some (some s) => env.set i (some (s.put ds))
  | _ => env
theorem ownAt_ok (ok : Ok K O0 env σ H) {i : Nat} (e : ownAt env i = some ds) :
    ∃ a ps s, σ[i]? = some (some (.ref a)) ∧ H a = some (.lst ps) ∧ Rps K (Al O0 env σ) H ds ps ∧ env[i]? = some (some s) ∧ s.mut = true := by
  unfold ownAt at e
  split at e
  · rename_i es ee
    cases e
    obtain ⟨v, ev, a, ps, rfl, h2, h3⟩ := ok.val i _ ee
    exact ⟨a, ps, _, ev, h2, h3, ee, rfl⟩
  · rename_i es ee
    cases e
    obtain ⟨v, ev, a, ps, rfl, h2, h3⟩ := ok.val i _ ee
    exact ⟨a, ps, _, ev, h2, h3, ee, rfl⟩
  · cases e
theorem StpE.put (ok : Ok K O0 env σ H) {i : Nat} {s : Sl} {ds' : List PyData} {ps' : List V} (es : σ[i]? = some (some (.ref a))) (hl : H a = some (.lst ps)) (ee : env[i]? = some (some s)) (hm : s.mut = true) (r : Rps K (Al O0 env σ) H ds' ps') :
    StpE K O0 env σ H (putOw env i ds') (upd H a (.lst ps')) := by
  have he : putOw env i ds' = env.set i (some (s.put ds')) := by
    unfold putOw
    rw [ee]
  rw [he]
  have own_a : Own env σ a := ⟨i, s, ee, hm, es⟩
  have le : ∀ b, Own (env.set i (some (s.put ds'))) σ b → Own env σ b := fun b ⟨j, t, hj, m, hs⟩ => by
    rcases get_set hj with ⟨h1, h2⟩ | ⟨h1, h2⟩
    · subst h1
      exact ⟨i, s, ee, hm, hs⟩
    · exact ⟨j, t, h2, m, hs⟩
  have hne : ∀ b o, H b = some o → ¬ Own env σ b → upd H a (.lst ps') b = some o := fun b o h n => by
    rw [upd_ne (fun z : b = a => n (by rw [z]; exact own_a))]
    exact h
  have g : Goes K (Al O0 env σ) H (Al O0 (env.set i (some (s.put ds'))) σ) (upd H a (.lst ps')) :=
    ⟨fun b xs h n => ⟨hne b _ h fun z => n (.inr z), fun z => n (z.elim .inl fun z => .inr (le b z))⟩, fun b xs h => SqT.keep ok (fun b o h n _ => hne b o h n) h, fun b h => dic_keep ok (fun b o h n _ => hne b o h n) h⟩
  refine ⟨⟨by rw [List.length_set]; exact ok.len, fun j t hj => ?_, fun j l t u b hj mt hl' mu hs1 hs2 => ?_, fun b h => ?_, fun b h => ok.dis b (le b h), ok.tabs hne⟩, fun b o h n _ => hne b o h n, fun b h => ?_, le, fun j es' hj => ?_⟩
  · rcases get_set hj with ⟨h1, h2⟩ | ⟨h1, h2⟩
    · subst h1
      have e2 : t = s.put ds' := (Option.some.inj h2).symm
      subst e2
      refine ⟨_, es, ?_⟩
      cases s with
      | pv d => cases hm
      | sc ns => cases hm
      | ow es2 => exact ⟨a, ps', rfl, upd_same, Rps.goes g _ _ r⟩
      | io es2 => exact ⟨a, ps', rfl, upd_same, Rps.goes g _ _ r⟩
    · obtain ⟨w, ew, rw'⟩ := ok.val j t h2
      refine ⟨w, ew, ?_⟩
      cases t with
      | pv d => exact Rp.goes g _ _ rw'
      | ow es2 =>
        obtain ⟨b, qs, f1, f2, f3⟩ := rw'
        subst f1
        exact ⟨b, qs, rfl, by rw [upd_ne (fun z : b = a => h1 (ok.inj i j _ _ a ee hm h2 rfl es (by rw [ew, z])))]; exact f2, Rps.goes g _ _ f3⟩
      | io es2 =>
        obtain ⟨b, qs, f1, f2, f3⟩ := rw'
        subst f1
        exact ⟨b, qs, rfl, by rw [upd_ne (fun z : b = a => h1 (ok.inj i j _ _ a ee hm h2 rfl es (by rw [ew, z])))]; exact f2, Rps.goes g _ _ f3⟩
      | sc ns =>
        obtain ⟨b, f1, f2⟩ := rw'
        refine ⟨b, f1, f2.goes g fun f2 => f2.elim (fun ⟨o, h⟩ => .inl ⟨o, hne b _ h fun z => ?_⟩) .inr⟩
        obtain ⟨xs, e⟩ := ok.own z
        rw [h] at e
        cases e
  · rcases get_set hj with ⟨h1, h2⟩ | ⟨h1, h2⟩
    · rcases get_set hl' with ⟨h3, h4⟩ | ⟨h3, h4⟩
      · exact h1.symm.trans h3
      · subst h1
        exact ok.inj i l s u b ee hm h4 mu hs1 hs2
    · rcases get_set hl' with ⟨h3, h4⟩ | ⟨h3, h4⟩
      · subst h3
        exact ok.inj j i t s b h2 mt ee hm hs1 hs2
      · exact ok.inj j l t u b h2 mt h4 mu hs1 hs2
  · obtain ⟨xs, e⟩ := ok.lst b h
    exact ⟨xs, hne b _ e fun z => ok.dis b z h⟩
  · by_cases hba : b = a
    · subst hba
      rw [upd_same]
      intro z
      cases z
    · rw [upd_ne hba]
      exact h
  · by_cases hij : i = j
    · subst hij
      rw [ee] at hj
      cases hj
      have lt : i < env.length := by
        by_cases hi : i < env.length
        · exact hi
        · rw [List.getElem?_eq_none (by simpa using hi)] at ee
          cases ee
      exact ⟨ds', by rw [List.getElem?_set_self lt]; rfl⟩
    · exact ⟨es', by rw [List.getElem?_set_ne hij]; exact hj⟩
end
end TL

namespace TL
open PySem PySem.Spec PyProof.Rows L2
variable [Tbl]

section
variable {X : Cx} {W : WX} {k : Nat} {st : Stmt} {rest : List Stmt} {d1 d2 : DS} {e a b c o : Expr} {d da db : D} {dl : DL} {pos p : Pos} {x y : Str}
def dOfF (d : DL) : D := fun env => (d env).bind fun (ds, e1) => .ok (.list ds, e1)
theorem de_of_df (h : DF X W e dl) : DE X W e (dOfF dl) := fun O0 => PE.imp (h O0) fun σ H Q ⟨env, ok, q⟩ => ⟨env, ok, EndE.bind q fun ds e1 H1 s1 q1 a ps f => q1 H1 (StpE.refl s1.ok) _ (f.rp (f.no0 ok))⟩
def fLst (ds : List D) : DL := dArgs ds
theorem df_lst {es : List Expr} {ds : List D} (h : DAs X W es (dArgs ds)) (hl : ds.length ≤ 1000 := by decide) : DF X W (.List es pos) (fLst ds) := fun O0 =>
  PE.imp (pe_lst (h O0)) fun σ H Q ⟨env, ok, q⟩ => ⟨env, ok, args_end (f := fun vs e1 => .ok (.list vs, e1)) (g := fun v e1 H1 => match v with
      | .list vs => ∀ ps, Rps X.K (Al O0 e1 σ) H1 vs ps → ∀ p, H1 p = none → Q (.ref p) (upd H1 p (.lst ps))
      | _ => False) (by
    unfold fLst at q
    cases hd : dArgs ds env with
    | ok pr =>
      obtain ⟨vs, e1⟩ := pr
      rw [hd] at q
      intro H1 s1 ps rps p hp
      have s2 := StpE.new (o := .lst ps) s1.ok hp
      exact q _ (s1.trans s2) p ps (Fresh.lay s1.ok hp (s1.no hp) rps)
    | ex c fs e1 => rw [hd] at q; exact q
    | stuck => rw [hd] at q; exact q) fun vs e1 H1 hv s1 q1 ps rps => ⟨by rw [← rps.length, hv]; exact Nat.le_of_lt (small1000 hl), fun p hp => q1 H1 (StpE.refl s1.ok) ps rps p hp⟩⟩
def setOw (env : En) (i : Nat) (ds : List PyData) : Option En := if free? env i = true then some (env.set i (some (.ow ds))) else none
omit [Tbl] in
theorem setOw_free {env env' : En} {i : Nat} {ds : List PyData} (h : setOw env i ds = some env') : free? env i = true ∧ env' = env.set i (some (.ow ds)) := by
  unfold setOw at h
  split at h
  · cases h
    exact ⟨by assumption, rfl⟩
  · cases h
def dAsgO (i : Nat) (d : DL) : DS := fun env => (d env).goS fun ds e1 => Out.ofS (setOw e1 i ds) fun e2 => .nx e2
theorem ds_setO {i : Nat} {p' : Pos} (hN : X.N.Nodup) (hi : X.N[i]? = some x) (hx : Loc X.env.scope x) (he : DF X W e dl) (hs : swapsWith e (some (.Name x p')) pos.line X.env = pure false := by rfl) (hf : X.fn x = true ∨ X.env.scope.names.lookup x = some .local := by first | exact .inl rfl | exact .inr rfl | assumption) :
    DSt X W (.Assign [.Name x p'] e pos) (dAsgO i dl) := fun O0 =>
  PS.imp (ps_set hN hi hx (he O0) hs hf) fun Dn σ H ⟨env, ok, q⟩ => ⟨env, ok, by
    unfold dAsgO at q
    cases hd : dl env with
    | ok pr =>
      obtain ⟨ds, e1⟩ := pr
      rw [hd] at q
      intro H1 s1 a ps f
      obtain ⟨e2, h2, q2⟩ := EndS.of q
      obtain ⟨hfr, rfl⟩ := setOw_free h2
      exact q2 _ _ (Stp.setOw ok s1.step hfr f)
    | ex c fs e1 => rw [hd] at q; exact fun H' cls d s r => q σ H' cls d s.step r
    | stuck => rw [hd] at q; exact q⟩
def dRetF (d : DL) : DS := fun env => (d env).goS fun ds e1 => .rl ds e1
theorem ds_retF (he : DF X W e dl) : DSt X W (.Return (some e) pos) (dRetF dl) := fun O0 =>
  PS.imp (ps_ret (he O0)) fun Dn σ H ⟨env, ok, q⟩ => ⟨env, ok, by
    unfold dRetF at q
    cases hd : dl env with
    | ok pr =>
      obtain ⟨ds, e1⟩ := pr
      rw [hd] at q
      exact fun H1 s1 a ps f => q σ H1 a ps s1.step f.w
    | ex c fs e1 => rw [hd] at q; exact fun H' cls d s r => q σ H' cls d s.step r
    | stuck => rw [hd] at q; exact q⟩

def ixW (ds : Option (List PyData)) (w v : PyData) : Option (List PyData) := match ds, w with
  | some ds, .int j => (ixN ds.length j).map fun n => ds.set n v
  | _, _ => none
def dSetIx (i : Nat) (b d : D) : DS := fun env => (d env).goS fun v e1 => Out.ofS (ownAt e1 i) fun _ => (b e1).goS fun w e2 => Out.ofS (ixW (ownAt e2 i) w v) fun ds => .nx (putOw e2 i ds)
theorem ds_setIx {i : Nat} {p' : Pos} (ho : PE X o (tVar i)) (hb : DE X W b db) (he : DE X W e d) (ha : ∀ v, assign (.Subscript o b p') X.env v = (do
      let ov ← holding [v] (eval o X.env)
      let iv ← holding [v, ov] (eval b X.env)
      standAt p'
      holding [v, ov, iv] (setItem ov iv v)
      release [v, ov, iv] []) := by intro _; rfl) (hs : swapsWithSole [.Subscript o b p'] e pos.line X.env = pure false := by rfl) (hw : swappedStores [.Subscript o b p'] e X.env = pure none := by rfl)
    (h1 : (assignEach [.Subscript o b p'] X.env).map (·.2) = [assign (.Subscript o b p') X.env] := by rfl) : DSt X W (.Assign [.Subscript o b p'] e pos) (dSetIx i db d) := fun O0 =>
  PS.imp (ps_asg (he O0) (pg_sub ho (hb O0) set_list ha) hs hw h1) fun Dn σ H ⟨env, ok, q⟩ => ⟨env, ok, EndE.goS q fun v e1 H1 s1 q1 p rp => by
    obtain ⟨ds0, e0, q1⟩ := EndS.of q1
    obtain ⟨a0, ps0, s0, es0, _, _, _, _⟩ := ownAt_ok s1.ok e0
    refine ⟨_, es0, e1, s1.ok, EndE.goS q1 fun w e2 H2 s2 q2 p2 rp2 => ?_⟩
    obtain ⟨ds', e3, q3⟩ := EndS.of q2
    clear q2
    cases hoe : ownAt e2 i with
    | none => rw [hoe] at e3; cases e3
    | some ds =>
      rw [hoe] at e3
      obtain ⟨a1, ps, s3, es, hl, hr, ee, hm⟩ := ownAt_ok s2.ok hoe
      rw [es0] at es
      cases es
      cases w with
      | int j =>
        cases rp2
        cases hj : ixN ds.length j with
        | none => simp only [ixW, hj, Option.map_none] at e3; cases e3
        | some n =>
          simp only [ixW, hj, Option.map_some] at e3
          cases e3
          exact ⟨_, ps, j, n, rfl, rfl, hl, by rw [← hr.length]; exact hj, q3 _ _ (StpE.put s2.ok es0 hl ee hm (Rps.set (s2.step.rp s1.ok rp) n hr)).step⟩
      | _ => cases e3⟩
def appW (ds : List PyData) (v : PyData) : Option (List PyData) := if ds.length < sizeLine then some (ds ++ [v]) else none
def dAppend (i : Nat) (d : D) : D := fun env => (Out.of (ownAt env i)).bind fun _ => (d env).bind fun (v, e1) => (Out.of ((ownAt e1 i).bind fun ds => appW ds v)).bind fun ds => .ok (.none, putOw e1 i ds)
theorem de_append {i : Nat} {apos cpos : Pos} (ho : PE X o (tVar i)) (he : DAs X W [e] (dArgs [d]))
    (hbase : attributeBase o "append" X.env (eval o X.env) = eval o X.env := by rfl)
    (hfew : ((backTo cpos (starEach [e] X.env)).all (fun x => !x.1) && (backToKw cpos (keywordEach [] X.env)).all (fun x => x.1.isSome)
      && decide (([e] : List Expr).length + ([] : List Keyword).length + (if ([] : List Keyword).isEmpty then 0 else 1) < 30)) = true := by rfl)
    (hline : (apos.endLine == cpos.line) = true := by rfl) (hs : starEach [e] X.env = (false, eval e X.env) :: starEach [] X.env := by rfl) (hplain : (backTo cpos (starEach [] X.env)).any (·.1) = false := by rfl) :
    DE X W (.Call (.Attribute o "append" apos) [e] [] cpos) (dAppend i d) := fun O0 =>
  PE.imp (pe_bm PySem.F.plainAttrs_list PySem.F.slot_list_append PySem.F.type_list_append mt_append ho (he O0) hbase hfew hline hs hplain) fun σ H Q ⟨env, ok, q⟩ => by
    obtain ⟨ds0, e0, q⟩ := EndE.of q
    obtain ⟨a0, ps0, s0, es0, hl0, _, _, _⟩ := ownAt_ok ok e0
    refine ⟨_, es0, .inl ⟨rfl, _, .inl (.inl hl0)⟩, env, ok, ?_⟩
    have q' : EndE (Cx.pm X W O0) env σ H (fun v env' H' => ∀ p, Rp X.K (Al O0 env' σ) H' v p → Q p H') ((dArgs [d] env).bind fun (vs, e1) => (Out.of ((ownAt e1 i).bind fun ds => appW ds (vs.headD .none))).bind fun ds => .ok (.none, putOw e1 i ds)) := by
      unfold dArgs dArgs dCons dNil
      cases hd : d env with
      | ok pr => obtain ⟨v, e1⟩ := pr; rw [hd] at q; exact q
      | ex c fs e1 => rw [hd] at q; exact q
      | stuck => rw [hd] at q; exact q
    refine args_end (f := fun vs e1 => (Out.of ((ownAt e1 i).bind fun ds => appW ds (vs.headD .none))).bind fun ds => .ok (.none, putOw e1 i ds)) q' fun vs e1 H1 hv s1 q1 ps rps => ?_
    obtain ⟨ds', e3, q3⟩ := EndE.of q1
    clear q1
    cases hoe : ownAt e1 i with
    | none => rw [hoe] at e3; cases e3
    | some ds =>
      rw [hoe] at e3
      obtain ⟨a1, qs, s3, es, hl, hr, ee, hm⟩ := ownAt_ok s1.ok hoe
      rw [es0] at es
      cases es
      cases rps with
      | nil => cases hv
      | cons r1 r2 =>
      cases r2 with
      | cons _ _ => cases hv
      | nil =>
      replace e3 : (if ds.length < sizeLine then some (ds ++ [_]) else none) = some ds' := e3
      split at e3
      · cases e3
        have st := StpE.put s1.ok es0 hl ee hm (hr.append (.cons r1 .nil))
        exact ⟨_, _, _, rfl, rfl, hl, by rw [← hr.length]; assumption, q3 _ st _ .non⟩
      · cases e3
end
end TL

namespace TL
open PySem PySem.Spec PyProof.Rows L2
variable [Tbl]

def Wk (Y : Pm) (J : It) (env : En) (σ : L2.St) (H : Hp) (items : List PyData) : Prop :=
  ∀ env2 σ2 H2, Stp Y.K Y.O0 env σ H env2 σ2 H2 → ∀ i : Nat,
    (∀ d, items[i]? = some d → J.go i H2 ∧ ∀ x H3, J.yld i H2 x H3 → StpE Y.K Y.O0 env2 σ2 H2 env2 H3 ∧ Rp Y.K (Al Y.O0 env2 σ2) H3 d x) ∧ (items.length ≤ i → J.stop i H2)
def tI (Y : Pm) (d : DL) : TI := fun σ H R => ∃ env, Ok Y.K Y.O0 env σ H ∧ EndE Y env σ H (fun items env' H' => ∀ J, Wk Y J env' σ H' items → R J H') (d env)
def DI (X : Cx) (W : WX) (tg iter : Expr) (d : DL) : Prop := ∀ O0, PI X tg iter (tI (Cx.pm X W O0) d)
omit [Tbl] in
theorem PI.imp {X : Cx} {tg iter : Expr} {t t' : TI} (h : PI X tg iter t) (i : ∀ σ H Q, t' σ H Q → t σ H Q) : PI X tg iter t' := ⟨fun pins s σ H Q I q => h.run pins s σ H Q I (i _ _ _ q)⟩

def itemsL : PyData → Option (List PyData)
  | .list ds => some ds
  | _ => none
def itemsT : PyData → Option (List PyData)
  | .tuple ds => some ds
  | _ => none
def dIt (f : PyData → Option (List PyData)) (d : D) : DL := fun env => (d env).bind fun (v, e1) => (Out.of (f v)).bind fun ds => .ok (ds, e1)
section
variable {X : Cx} {W : WX} {k : Nat} {tg iter e a b c : Expr} {d da db dc : D} {dl : DL} {pos p : Pos} {x y : Str}
theorem wk_list {Y : Pm} {env : En} {σ : L2.St} {H : Hp} {l : Addr} {ds : List PyData} {ps : List V} (ok : Ok Y.K Y.O0 env σ H) (hl : H l = some (.lst ps)) (hn : ¬ Al Y.O0 env σ l) (r : Rps Y.K (Al Y.O0 env σ) H ds ps) : Wk Y (Itl Y.K l) env σ H ds := fun env2 σ2 H2 s i => by
  have h2 : SqL Y.K H2 l ps := .inl (.inl ((s.goes ok).1 l ps hl hn).1)
  have r2 := s.rps ok r
  refine ⟨fun d hd => ?_, fun hi => ⟨ps, h2, by rw [← r2.length]; exact hi⟩⟩
  obtain ⟨v, hv, rv⟩ := r2.get hd
  exact ⟨⟨ps, v, h2, hv⟩, fun x H3 ⟨e1, e2⟩ => by
    subst e1
    have := e2 ps h2
    rw [hv] at this
    cases this
    exact ⟨StpE.refl s.ok, rv⟩⟩
theorem di_list (h : DE X W e d) : DI X W tg e (dIt itemsL d) := fun O0 =>
  PI.imp (pi_list (h O0)) fun σ H R ⟨env, ok, q⟩ => ⟨env, ok, EndE.bind q fun v e1 H1 s1 q1 p rp => by
    obtain ⟨ds, hd, q2⟩ := EndE.of q1
    cases rp with
    | lst h1 h2 h3 =>
      cases hd
      exact ⟨_, rfl, ⟨_, .inl (.inl h1)⟩, q2 H1 (StpE.refl s1.ok) _ (wk_list s1.ok h1 h2 h3)⟩
    | _ => cases hd⟩
theorem wk_tup {Y : Pm} {env : En} {σ : L2.St} {H : Hp} {l : Addr} {ds : List PyData} {ps : List V} (ok : Ok Y.K Y.O0 env σ H) (hl : SqT Y.K H l ps) (r : Rps Y.K (Al Y.O0 env σ) H ds ps) : Wk Y (Itt Y.K l) env σ H ds := fun env2 σ2 H2 s i => by
  have h2 : SqT Y.K H2 l ps := (s.goes ok).2.1 l ps hl
  have r2 := s.rps ok r
  refine ⟨fun d hd => ?_, fun hi => ⟨ps, h2, by rw [← r2.length]; exact hi⟩⟩
  obtain ⟨v, hv, rv⟩ := r2.get hd
  exact ⟨⟨ps, v, h2, hv⟩, fun x H3 ⟨e1, e2⟩ => by
    subst e1
    have := e2 ps h2
    rw [hv] at this
    cases this
    exact ⟨StpE.refl s.ok, rv⟩⟩
theorem di_tup (h : DE X W e d) : DI X W tg e (dIt itemsT d) := fun O0 =>
  PI.imp (pi_tup (h O0)) fun σ H R ⟨env, ok, q⟩ => ⟨env, ok, EndE.bind q fun v e1 H1 s1 q1 p rp => by
    obtain ⟨ds, hd, q2⟩ := EndE.of q1
    cases rp with
    | tup h1 h3 =>
      cases hd
      exact ⟨_, rfl, ⟨_, h1⟩, q2 H1 (StpE.refl s1.ok) _ (wk_tup s1.ok h1 h3)⟩
    | _ => cases hd⟩
def rng (lo : Int) (n : Nat) : List PyData := (List.range n).map fun (i : Nat) => .int (lo + (i : Int))
omit [Tbl] in
theorem rng_get {lo : Int} {n i : Nat} {d : PyData} (h : (rng lo n)[i]? = some d) : i < n ∧ d = .int (lo + (i : Int)) := by
  unfold rng at h
  rw [List.getElem?_map] at h
  by_cases hi : i < n
  · rw [List.getElem?_range hi] at h
    exact ⟨hi, (Option.some.inj h).symm⟩
  · rw [List.getElem?_eq_none (by simpa using hi)] at h
    cases h
theorem wk_rng {Y : Pm} {env : En} {σ : L2.St} {H : Hp} {lo : Int} {n : Nat} : Wk Y (Itr lo n) env σ H (rng lo n) := fun env2 σ2 H2 s i =>
  ⟨fun d hd => by
    obtain ⟨hi, rfl⟩ := rng_get hd
    exact ⟨hi, fun x H3 ⟨e1, e2⟩ => by
      subst e1
      subst e2
      exact ⟨StpE.refl s.ok, .int _⟩⟩, fun hi => by
    unfold rng at hi
    rw [List.length_map, List.length_range] at hi
    exact hi⟩
def rng1 : List PyData → Option (List PyData)
  | [.int j] => if -(2 ^ 62) ≤ j ∧ j < 2 ^ 62 then some (rng 0 j.toNat) else none
  | _ => none
def dItA (f : List PyData → Option (List PyData)) (ds : List D) : DL := fun env => (dArgs ds env).bind fun (vs, e1) => (Out.of (f vs)).bind fun ds => .ok (ds, e1)
theorem di_range1 (hm : X.mg "range" = none) (ha : DAs X W [a] (dArgs [da])) (hg : Gl X "range" := by rfl) (hs : starEach [a] X.env = [(false, eval a X.env)] := by rfl) : DI X W tg (.Call (.Name "range" p) [a] [] pos) (dItA rng1 [da]) := fun O0 =>
  PI.imp (pi_range1 hg hm (ha O0) hs) fun σ H R ⟨env, ok, q⟩ => ⟨env, ok, EndE.bind q fun vs e1 H1 s1 q1 ps rps => by
    obtain ⟨ds, hd, q2⟩ := EndE.of q1
    clear q1
    unfold rng1 at hd
    split at hd
    · split at hd
      · rename_i hb
        cases hd
        cases rps with
        | cons r1 r2 =>
        cases r1
        cases r2
        exact ⟨_, rfl, hb.1, hb.2, q2 H1 (StpE.refl s1.ok) _ wk_rng⟩
      · cases hd
    · cases hd⟩
def loopF (g : DG) (body : DS) : List PyData → DS
  | [], env => .nx env
  | v :: vs, env => Out.ofS (g v env) fun e1 => match body e1 with
    | .nx e2 => loopF g body vs e2
    | .ct e2 => loopF g body vs e2
    | .bk e2 => .nx e2
    | o => o
def dFor (items : DL) (g : DG) (body : DS) : DS := fun env => (items env).goS fun vs e1 => loopF g body vs e1
theorem ds_for {g : DG} {body : List Stmt} {db : DS} (hp : PassesOwn (model X.prog X.w) X.A X.env X.xe) (hc : X.calm = true) (hi : DI X W tg iter dl) (hg : DGt X tg g) (hb : DSs X W body db)
    (hs : ∀ x, foldedSetIterable iter X.env x = pure x := by intro _; rfl) : DSt X W (.For tg iter body [] pos) (dFor dl g db) := fun O0 =>
  PS.imp (ps_for hp hc (hi O0) (hg (Cx.pm X W O0) rfl) (hb O0) hs) fun Dn σ H ⟨env, ok, q⟩ => ⟨env, ok, EndE.goS q fun items e1 H1 s1 q1 J wk => by
    refine ⟨fun i m σ2 H2 => ∃ env2, Stp X.K O0 e1 σ H1 env2 σ2 H2 ∧ i ≤ items.length ∧ m = items.length - i ∧ EndS (Cx.pm X W O0) env2 σ2 H2 Dn (loopF g db (items.drop i) env2),
      ⟨items.length, e1, Stp.refl s1.ok, Nat.zero_le _, rfl, q1⟩, fun i m σ2 H2 ⟨env2, s2, hle, hm, q2⟩ => ?_⟩
    by_cases hlt : i < items.length
    · obtain ⟨hgo, hy⟩ := (wk env2 σ2 H2 s2 i).1 items[i] (List.getElem?_eq_getElem hlt)
      rw [List.drop_eq_getElem_cons hlt] at q2
      obtain ⟨e3, he3, q3⟩ := EndS.of q2
      refine .inr ⟨hgo, fun σ' H' => ∃ env2, Stp X.K O0 e1 σ H1 env2 σ' H' ∧ EndS (Cx.pm X W O0) env2 σ' H' Dn (loopF g db (items.drop (i + 1)) env2), fun σ' H' ⟨e4, s4, q4⟩ => ⟨items.length - (i + 1), by omega, e4, s4, hlt, rfl, q4⟩, fun x H3 hx => ?_⟩
      obtain ⟨s3, rx⟩ := hy x H3 hx
      refine ⟨env2, items[i], e3, s3.ok, rx, he3, fun σ4 H4 s4 => ⟨e3, s4.ok, ?_⟩⟩
      have s34 : Stp X.K O0 e1 σ H1 e3 σ4 H4 := (s2.trans s3.step).trans s4
      have q5 := EndS.shift (s3.step.trans s4) q3
      cases hbo : db e3 with
      | nx e5 => rw [hbo] at q5; exact fun σ' H' s => ⟨e5, s34.trans s, EndS.shift s q5⟩
      | ct e5 => rw [hbo] at q5; exact fun σ' H' s => ⟨e5, s34.trans s, EndS.shift s q5⟩
      | bk e5 => rw [hbo] at q5; exact q5
      | rt v e5 => rw [hbo] at q5; exact q5
      | rl v e5 => rw [hbo] at q5; exact q5
      | ex c fs e5 => rw [hbo] at q5; exact q5
      | stuck => rw [hbo] at q5; exact q5
    · have hi : i = items.length := by omega
      subst hi
      rw [List.drop_length] at q2
      exact .inl ⟨(wk env2 σ2 H2 s2 _).2 (Nat.le_refl _), q2 σ2 H2 (Stp.refl s2.ok)⟩⟩

def whileN (t : DT) (b : DS) : Nat → DS
  | 0, _ => .stuck
  | n + 1, env => (t env).goS fun v e1 => if v = true then (match b e1 with
      | .nx e2 => whileN t b n e2
      | .ct e2 => whileN t b n e2
      | .bk e2 => .nx e2
      | o => o) else .nx e1
open Classical in
noncomputable def dWhile (t : DT) (b : DS) : DS := fun env => if h : ∃ n, whileN t b n env ≠ .stuck then whileN t b h.choose env else .stuck
omit [Tbl] in
theorem whileN_up {t : DT} {b : DS} : ∀ {n : Nat} {env : En}, whileN t b n env ≠ .stuck → ∀ m, n ≤ m → whileN t b m env = whileN t b n env
  | 0, env, h, _, _ => absurd rfl h
  | n + 1, env, h, 0, hm => absurd hm (by omega)
  | n + 1, env, h, m + 1, hm => by
    unfold whileN at h ⊢
    cases ht : t env with
    | ok pr =>
      obtain ⟨v, e1⟩ := pr
      rw [ht] at h
      simp only [Out.goS_ok] at h ⊢
      cases v with
      | false => rfl
      | true =>
        simp only [if_true] at h ⊢
        cases hb : b e1 with
        | nx e2 => rw [hb] at h; exact whileN_up h m (by omega)
        | ct e2 => rw [hb] at h; exact whileN_up h m (by omega)
        | _ => rfl
    | ex c fs e1 => rfl
    | stuck => rfl
omit [Tbl] in
theorem dWhile_of {t : DT} {b : DS} {n : Nat} {env : En} (h : whileN t b n env ≠ .stuck) : dWhile t b env = whileN t b n env := by
  unfold dWhile
  have hx : ∃ n, whileN t b n env ≠ .stuck := ⟨n, h⟩
  rw [dif_pos hx]
  have h1 := hx.choose_spec
  rcases Nat.le_total hx.choose n with hl | hl
  · exact (whileN_up h1 n hl).symm
  · exact whileN_up h _ hl
theorem ds_while {t : DT} {body : List Stmt} {db : DS} (hp : PassesOwn (model X.prog X.w) X.A X.env X.xe) (hc : DTe X W c t) (hb : DSs X W body db) : DSt X W (.While c body [] pos) (dWhile t db) := fun O0 =>
  PS.imp (ps_while hp (hc O0) (hb O0)) fun Dn σ H ⟨env, ok, q⟩ => by
    obtain ⟨n0, q0⟩ : ∃ n, EndS (Cx.pm X W O0) env σ H Dn (whileN t db n env) := by
      unfold dWhile at q
      split at q
      · exact ⟨_, q⟩
      · exact q.elim
    refine ⟨fun m σ2 H2 => ∃ env2, Stp X.K O0 env σ H env2 σ2 H2 ∧ EndS (Cx.pm X W O0) env2 σ2 H2 Dn (whileN t db m env2), ⟨n0, env, Stp.refl ok, q0⟩, fun m σ2 H2 ⟨env2, s2, q2⟩ => ?_⟩
    cases m with
    | zero => exact (show False from q2).elim
    | succ m =>
      rw [whileN] at q2
      refine ⟨env2, s2.ok, EndE.goS q2 fun v e1 H1 s1 q1 => ?_⟩
      cases v with
      | false => exact q1 σ2 H1 (Stp.refl s1.ok)
      | true =>
        refine ⟨fun σ' H' => ∃ env2, Stp X.K O0 env σ H env2 σ' H' ∧ EndS (Cx.pm X W O0) env2 σ' H' Dn (whileN t db m env2), fun σ' H' h => ⟨m, by omega, h⟩, e1, s1.ok, ?_⟩
        have s3 := s2.trans s1.step
        simp only [if_true] at q1
        cases hbo : db e1 with
        | nx e5 => rw [hbo] at q1; exact fun σ' H' s => ⟨e5, s3.trans s, EndS.shift s q1⟩
        | ct e5 => rw [hbo] at q1; exact fun σ' H' s => ⟨e5, s3.trans s, EndS.shift s q1⟩
        | bk e5 => rw [hbo] at q1; exact q1
        | rt v e5 => rw [hbo] at q1; exact q1
        | rl v e5 => rw [hbo] at q1; exact q1
        | ex c fs e5 => rw [hbo] at q1; exact q1
        | stuck => rw [hbo] at q1; exact q1

def dPar (i j : Nat) (a b : D) : DS := fun env => (dArgs [a, b] env).goS fun vs e1 => Out.ofS (match vs with
  | [v, w] => (setPv e1 i v).bind fun e2 => setPv e2 j w
  | _ => none) fun e2 => .nx e2
theorem ds_par {i j : Nat} {px py pt : Pos} {kt k2 pt2} (hc : X.calm = true) (hN : X.N.Nodup) (hi : X.N[i]? = some x) (hj : X.N[j]? = some y) (hij : i ≠ j)
    (hx : X.env.scope.names.lookup x = some .local) (hy : X.env.scope.names.lookup y = some .local) (ha : DAs X W [a, b] (dArgs [da, db]))
    (hw : swappedStores [.Tuple [.Name x px, .Name y py] kt pt] (.Tuple [a, b] k2 pt2) X.env = pure (some [x, y]) := by rfl)
    (hs : swapsWithSole [.Tuple [.Name x px, .Name y py] kt pt] (.Tuple [a, b] k2 pt2) pos.line X.env = pure false := by rfl) :
    DSt X W (.Assign [.Tuple [.Name x px, .Name y py] kt pt] (.Tuple [a, b] k2 pt2) pos) (dPar i j da db) := fun O0 =>
  PS.imp (ps_par hc hN hi hj hij hx hy (ha O0) hw hs) fun Dn σ H ⟨env, ok, q⟩ => ⟨env, ok, EndE.goS q fun vs e1 H1 s1 q1 ps rps => by
    obtain ⟨e2, h2, q2⟩ := EndS.of q1
    split at h2
    · rename_i v w
      cases rps with
      | cons r1 r2 =>
      cases r2 with
      | cons r2 r3 =>
      cases r3
      cases h3 : setPv e1 i v with
      | none => rw [h3] at h2; cases h2
      | some e3 =>
        rw [h3] at h2
        obtain ⟨hf, rfl⟩ := setPv_free h3
        obtain ⟨hf2, rfl⟩ := setPv_free (show setPv _ j w = some e2 from h2)
        have st := Stp.setPv s1.ok hf r1
        exact ⟨_, _, rfl, q2 _ _ (st.trans (Stp.setPv st.ok hf2 (st.rp s1.ok r2)))⟩
    · cases h2⟩
end
end TL

namespace TL
open PySem PySem.Spec PyProof.Rows L2
variable [Tbl]

inductive OutF where
  | val (v : PyData) (as : List Sl)
  | fresh (ds : List PyData) (as : List Sl)
  | ex (c : Str) (fs : List (Str × PyData)) (as : List Sl)
  | stuck
abbrev Fn := List Sl → OutF
def slots (as : List Sl) : En := as.map some
def Sl.arg : Sl → Bool
  | .ow _ => false
  | _ => true

def EndF (K : PySem.W.Frag) (mg : Str → Option Value) (O0 : Addr → Prop) (as : List Sl) (vs : List V) (H : Hp) (Q : VK) (E : XK) : OutF → Prop
  | .val v as' => ∀ H' p, StpE K O0 (slots as) (vs.map some) H (slots as') H' → Rp K (Al O0 (slots as') (vs.map some)) H' v p → Q p H'
  | .fresh ds as' => ∀ H' a ps, StpE K O0 (slots as) (vs.map some) H (slots as') H' → Fresh K O0 H (slots as') (vs.map some) H' a ds ps → Q (.ref a) H'
  | .ex c fs as' => ∀ H' cls d, StpE K O0 (slots as) (vs.map some) H (slots as') H' → XRep mg K (Al O0 (slots as') (vs.map some)) H' c fs cls d → E cls d H'
  | .stuck => False
def spOf (K : PySem.W.Frag) (mg : Str → Option Value) (n : Nat) (F : Fn) : Sp := fun vs H Q E => ∃ O0 as, as.length = n ∧ as.all Sl.arg = true ∧ Ok K O0 (slots as) (vs.map some) H ∧ EndF K mg O0 as vs H Q E (F as)

def backAt : Sl → Option (Option Sl) → Sl
  | .io _, some (some (.io ds')) => .io ds'
  | s, _ => s
def backs (as : List Sl) (e : En) : List Sl := as.mapIdx fun i s => backAt s e[i]?
def runF (n : Nat) (body : DS) : Fn := fun as => match body (slots as ++ List.replicate (n - as.length) none) with
  | .nx env => .val .none (backs as env)
  | .rt v env => .val v (backs as env)
  | .rl ds env => .fresh ds (backs as env)
  | .ex c fs env => .ex c fs (backs as env)
  | _ => .stuck

omit [Tbl] in
theorem backs_len (as : List Sl) (e : En) : (backs as e).length = as.length := by simp [backs]
omit [Tbl] in
theorem backs_get (as : List Sl) (e : En) (i : Nat) : (backs as e)[i]? = as[i]?.map fun s => backAt s e[i]? := by
  unfold backs
  rw [List.getElem?_mapIdx]
omit [Tbl] in
theorem back_io {ds ds' : List PyData} {e : Option (Option Sl)} (h : e = some (some (.io ds'))) : backAt (.io ds) e = .io ds' := by
  subst h
  rfl
omit [Tbl] in
theorem back_no {s : Sl} {e : Option (Option Sl)} (h : s.mut = false) : backAt s e = s := by
  cases s with
  | io ds => cases h
  | pv d => rfl
  | ow ds => cases h
  | sc ns => rfl

omit [Tbl] in
theorem slots_get {as : List Sl} {i : Nat} {s : Sl} : (slots as)[i]? = some (some s) ↔ as[i]? = some s := by
  unfold slots
  rw [List.getElem?_map]
  cases as[i]? <;> simp
omit [Tbl] in
theorem pad_get {α : Type} {as : List α} {n i : Nat} {s : α} : (as.map some ++ List.replicate n none)[i]? = some (some s) ↔ as[i]? = some s := by
  by_cases hi : i < as.length
  · rw [List.getElem?_append_left (by simpa using hi), List.getElem?_map]
    cases as[i]? <;> simp
  · rw [List.getElem?_append_right (by simpa using hi), List.getElem?_eq_none (by omega : as.length ≤ i)]
    constructor
    · intro h
      have := List.getElem?_eq_some_iff.mp h
      obtain ⟨h1, h2⟩ := this
      rw [List.getElem_replicate] at h2
      cases h2
    · intro h
      cases h
omit [Tbl] in
theorem vals_get {vs : List V} {i : Nat} {v : V} : (vs.map some)[i]? = some (some v) ↔ vs[i]? = some v := by
  rw [List.getElem?_map]
  cases vs[i]? <;> simp

section
variable {K : PySem.W.Frag} {mg : Str → Option Value} {O0 : Addr → Prop} {as : List Sl} {vs : List V} {H H' : Hp} {n m : Nat}
omit [Tbl] in
theorem own_pad {a : Addr} : Own (slots as ++ List.replicate n none) (vs.map some ++ List.replicate m none) a ↔ Own (slots as) (vs.map some) a := by
  constructor
  · rintro ⟨i, s, h1, hm, h2⟩
    exact ⟨i, s, slots_get.mpr (pad_get.mp h1), hm, vals_get.mpr (pad_get.mp h2)⟩
  · rintro ⟨i, s, h1, hm, h2⟩
    exact ⟨i, s, pad_get.mpr (slots_get.mp h1), hm, pad_get.mpr (vals_get.mp h2)⟩
omit [Tbl] in
theorem al_pad {a : Addr} : Al O0 (slots as ++ List.replicate n none) (vs.map some ++ List.replicate m none) a ↔ Al O0 (slots as) (vs.map some) a := by
  unfold Al
  rw [own_pad]
omit [Tbl] in
theorem Goes.shrink {O O' : Addr → Prop} (h : ∀ a, O' a → O a) : Goes K O H O' H := ⟨fun c xs e n => ⟨e, fun z => n (h c z)⟩, fun c xs e => e, fun _ e => e⟩
omit [Tbl] in
theorem RS.shrink {O O' : Addr → Prop} (h : ∀ a, O' a → O a) {s : Sl} {v : V} (r : RS K O H s v) : RS K O' H s v := RS.goes (Goes.shrink h) (fun _ _ e => e) (fun _ _ e => e) r
theorem Ok.pad (ok : Ok K O0 (slots as) (vs.map some) H) (hl : n + as.length = m + vs.length) : Ok K O0 (slots as ++ List.replicate n none) (vs.map some ++ List.replicate m none) H where
  len := by
    have := ok.len
    unfold slots at this ⊢
    simp at this ⊢
    omega
  val := fun i s e => by
    obtain ⟨v, h1, h2⟩ := ok.val i s (slots_get.mpr (pad_get.mp e))
    exact ⟨v, pad_get.mpr (vals_get.mp h1), RS.shrink (fun a z => al_pad.mp z) h2⟩
  inj := fun i j s t a h1 h2 h3 h4 h5 h6 => ok.inj i j s t a (slots_get.mpr (pad_get.mp h1)) h2 (slots_get.mpr (pad_get.mp h3)) h4 (vals_get.mpr (pad_get.mp h5)) (vals_get.mpr (pad_get.mp h6))
  lst := ok.lst
  dis := fun a h => ok.dis a (own_pad.mp h)
  tab := ok.tab
omit [Tbl] in
theorem arg_mut {s : Sl} (h : s.arg = true) (hm : s.mut = true) : ∃ ds, s = .io ds := by
  cases s with
  | io ds => exact ⟨ds, rfl⟩
  | pv d => cases hm
  | ow ds => cases h
  | sc ns => cases hm
omit [Tbl] in
theorem arg_of (ha : as.all Sl.arg = true) {i : Nat} {s : Sl} (e : as[i]? = some s) : s.arg = true := List.all_eq_true.mp ha s (List.mem_of_getElem? e)
theorem back_step {env' : En} {σ' : L2.St} (ha : as.all Sl.arg = true) (ok : Ok K O0 (slots as) (vs.map some) H) (hl : n + as.length = m + vs.length) (s : Stp K O0 (slots as ++ List.replicate n none) (vs.map some ++ List.replicate m none) H env' σ' H') :
    StpE K O0 (slots as) (vs.map some) H (slots (backs as env')) H' ∧ (∀ a, Own (slots (backs as env')) (vs.map some) a → Own env' σ' a) ∧
      ∀ O1 : Addr → Prop, Ok K O1 env' σ' H' → (∀ b, O1 b → O0 b ∨ H b = none) → Ok K O1 (slots (backs as env')) (vs.map some) H' := by
  have ok0 := ok.pad (m := m) hl
  have hv : as.length = vs.length := by simpa [slots] using ok.len
  have io : ∀ (i : Nat) (ds : List PyData), as[i]? = some (Sl.io ds) → (∃ ds', env'[i]? = some (some (Sl.io ds'))) ∧ σ'[i]? = (vs.map some)[i]? := fun i ds e => by
    obtain ⟨h1, h2⟩ := s.io i ds (pad_get.mpr e)
    refine ⟨h1, h2.trans ?_⟩
    have hi : i < as.length := (List.getElem?_eq_some_iff.mp e).1
    rw [List.getElem?_append_left (by simp; omega)]
  -- what stands in the arguments behind it
  have bio : ∀ (i : Nat) (t : Sl), (backs as env')[i]? = some t → (∃ ds ds', as[i]? = some (Sl.io ds) ∧ env'[i]? = some (some (Sl.io ds')) ∧ t = .io ds' ∧ σ'[i]? = (vs.map some)[i]?) ∨ (as[i]? = some t ∧ t.mut = false) := fun i t e => by
    rw [backs_get] at e
    cases hg : as[i]? with
    | none => rw [hg] at e; cases e
    | some u =>
      rw [hg] at e
      have e' : backAt u env'[i]? = t := Option.some.inj e
      cases hm : u.mut with
      | false =>
        rw [back_no hm] at e'
        subst e'
        exact .inr ⟨rfl, hm⟩
      | true =>
        obtain ⟨ds, rfl⟩ := arg_mut (arg_of ha hg) hm
        obtain ⟨⟨ds', h4⟩, h5⟩ := io i ds hg
        rw [back_io h4] at e'
        exact .inl ⟨ds, ds', rfl, h4, e'.symm, h5⟩
  have ownB : ∀ a, Own (slots (backs as env')) (vs.map some) a → Own env' σ' a ∧ Own (slots as) (vs.map some) a := fun a ⟨i, t, h1, hm, h2⟩ => by
    rcases bio i t (slots_get.mp h1) with ⟨ds, ds', e1, e2, e3, e4⟩ | ⟨_, e2⟩
    · subst e3
      exact ⟨⟨i, _, e2, rfl, e4.trans h2⟩, ⟨i, _, slots_get.mpr e1, rfl, h2⟩⟩
    · rw [hm] at e2
      cases e2
  have keep : ∀ a o, H a = some o → ¬ Own (slots as) (vs.map some) a → NT o → H' a = some o := fun a o e n nt => s.keep a o e (fun z => n (own_pad.mp z)) nt
  have alB : ∀ a, Al O0 (slots (backs as env')) (vs.map some) a → Al O0 env' σ' a := fun a z => z.elim .inl fun z => .inr (ownB a z).1
  have main : ∀ O1 : Addr → Prop, Ok K O1 env' σ' H' → (∀ b, O1 b → O0 b ∨ H b = none) → Ok K O1 (slots (backs as env')) (vs.map some) H' := fun O1 ok1 ho1 => by
   have alB : ∀ a, Al O1 (slots (backs as env')) (vs.map some) a → Al O1 env' σ' a := fun a z => z.elim .inl fun z => .inr (ownB a z).1
   have g1 : Goes K (Al O0 (slots as) (vs.map some)) H (Al O1 (slots (backs as env')) (vs.map some)) H' :=
    ⟨fun c xs e n => ⟨keep c _ e (fun z => n (.inr z)) nt_lst, fun z => z.elim (fun z => (ho1 c z).elim (fun z => n (.inl z)) fun z => by rw [e] at z; cases z) fun z => n (.inr (ownB c z).2)⟩, fun c xs e => SqT.keep ok keep e, fun c e => dic_keep ok keep e⟩
   refine ⟨?_, fun i t e => ?_, fun i j t u a h1 h2 h3 h4 h5 h6 => ?_, ok1.lst, fun a z => ok1.dis a (ownB a z).1, ok1.tab⟩
   · simp only [slots, List.length_map, backs_len]
     exact hv
   · rcases bio i t (slots_get.mp e) with ⟨ds, ds', e1, e2, e3, e4⟩ | ⟨e1, e2⟩
     · subst e3
       obtain ⟨v, h1, h2⟩ := ok1.val i _ e2
       exact ⟨v, e4.symm.trans h1, RS.shrink alB h2⟩
     · obtain ⟨v, h1, h2⟩ := ok.val i t (slots_get.mpr e1)
       refine ⟨v, h1, ?_⟩
       cases t with
       | pv d => exact Rp.goes g1 _ _ h2
       | ow es => cases e2
       | io es => cases e2
       | sc ns =>
         obtain ⟨a, f1, f2⟩ := h2
         refine ⟨a, f1, f2.goes g1 fun f2 => f2.elim (fun ⟨o, h⟩ => .inl ⟨o, keep a _ h (fun z => ?_) nt_frz⟩) .inr⟩
         obtain ⟨xs, e⟩ := ok.own z
         rw [h] at e
         cases e
   · rcases bio i t (slots_get.mp h1) with ⟨ds, ds', e1, e2, e3, e4⟩ | ⟨e1, e2⟩
     · rcases bio j u (slots_get.mp h3) with ⟨es, es', f1, f2, f3, f4⟩ | ⟨f1, f2⟩
       · exact ok.inj i j _ _ a (slots_get.mpr e1) rfl (slots_get.mpr f1) rfl h5 h6
       · rw [h4] at f2
         cases f2
     · rw [h2] at e2
       cases e2
  refine ⟨⟨main O0 s.ok fun b z => .inl z, fun a o e n nt => keep a o e n nt, s.dom, fun a z => (ownB a z).2, fun i ds e => ?_⟩, fun a z => (ownB a z).1, main⟩
  · obtain ⟨⟨ds', h4⟩, _⟩ := io i ds (slots_get.mp e)
    exact ⟨ds', slots_get.mpr (by rw [backs_get, slots_get.mp e]; exact congrArg some (back_io h4))⟩
end

structure FunC (K : PySem.W.Frag) (x qual : Str) (st : Stmt) (f : Addr) (fd : FuncData) : Prop where
  ex : ∃ (c : Value) (od : Option Addr) (dV kV doc pm : Value) (an : Option Addr) (cdv ct : Value) (sl : Array (Option Value)),
    fd = PySem.W.fnOf x qual (defArgs st) (defBody st) (defScope st) dV kV doc pm an cdv ct ∧ K.lookup f = some ⟨c, od, .func fd, sl⟩ ∧ PySem.W.codeIn K cdv qual = true
theorem funC {K : PySem.W.Frag} {x qual : Str} {st : Stmt} {f : Addr} {fd : FuncData} (F : Fun K x qual st f fd) : FunC K x qual st f fd := by
  obtain ⟨c, od, kV, doc, pm, an, cdv, ct, sl, h⟩ := F.ex
  exact ⟨⟨c, od, .none, kV, doc, pm, an, cdv, ct, sl, h⟩⟩
omit [Tbl] in
theorem fun_code {P : Program} {w : World} {K : PySem.W.Frag} {mg : Str → Option Value} {base : Heap} {x qual : Str} {st : Stmt} {f : Addr} {fd : FuncData} {N ps : List Str} {k : Nat} {sp : Sp} (F : FunC K x qual st f fd) (S : FnScope N ps (defScope st)) (len : ∀ vs H Q E, sp vs H Q E → vs.length = ps.length)
    (body : ∀ (cdv : Value), fd.code = cdv → ∀ (A : Around) (outer : List Env) (s : Shared) (H : Hp) (vs : List V) (Q : VK) (E : XK), Room k (A.deeper (envOfC qual (defScope st) s.heap.objs.size f cdv)) → A.guards = some [] → sp vs H Q E →
      ∃ t, PSs (cxOf (L2.CX P w) P w K mg base N qual (defScope st) f cdv A outer s H E) (defBody st) t ∧ t { nx := fun _ H' => Q .non H', rt := Q } (L2.start N vs) H) : FnG P w K mg base (L2.CX P w) (k + 1) f fd ps sp := by
  obtain ⟨z1, z2, z0, z3, z4, z5, z6, code, z7, z8, same, at', named⟩ := F.ex
  subst same
  exact fnG_of at' named S len fun A outer s H vs Q E hr hg hsp => body code rfl A outer s H vs Q E hr hg hsp
theorem fn_tells0 {P : Program} {w : World} {K : PySem.W.Frag} {mg : Str → Option Value} {base : Heap} {x qual : Str} {st : Stmt} {f : Addr} {fd : FuncData} {N ps : List Str} {k : Nat} {body : DS} (F : FunC K x qual st f fd) (S : FnScope N ps (defScope st))
    (hb : ∀ (cdv : Value) (_ : fd.code = cdv) (A : Around) (outer : List Env) (s : Shared) (H : Hp) (E : XK), Gd (cxOf (L2.CX P w) P w K mg base N qual (defScope st) f cdv A outer s H E) (fun cls d _ H' => E cls d H') k →
      DSs (cxOf (L2.CX P w) P w K mg base N qual (defScope st) f cdv A outer s H E) (fun cls d _ H' => E cls d H') (defBody st) body)
    (hN : ps.length ≤ N.length := by decide) :
    FnG P w K mg base (L2.CX P w) (k + 1) f fd ps (spOf K mg ps.length (runF N.length body)) := by
  refine fun_code F S (fun vs H Q E h => ?_) (fun cdv hcd A outer s H vs Q E hr hg h => ?_)
  · obtain ⟨O0, as, hn, _, ok, _⟩ := h
    have hv : as.length = vs.length := by simpa [slots] using ok.len
    omega
  · obtain ⟨O0, as, hn, ha, ok, q⟩ := h
    have hv : as.length = vs.length := by simpa [slots] using ok.len
    have tk : Takes (cxOf (L2.CX P w) P w K mg base N qual (defScope st) f cdv A outer s H E) (fun cls d _ H' => E cls d H') := takes_of rfl rfl rfl rfl
    have G : Gd (cxOf (L2.CX P w) P w K mg base N qual (defScope st) f cdv A outer s H E) (fun cls d _ H' => E cls d H') k := ⟨rfl, hr, hg, tk, passes_of rfl, S.nd⟩
    refine ⟨_, hb cdv hcd A outer s H E G O0, slots as ++ List.replicate (N.length - as.length) none, ok.pad (by omega), ?_⟩
    unfold runF at q
    have hl : N.length - as.length + as.length = N.length - vs.length + vs.length := by omega
    cases hbo : body (slots as ++ List.replicate (N.length - as.length) none) with
    | nx env =>
      rw [hbo] at q
      exact fun σ' H' st => q H' _ (back_step ha ok hl st).1 .non
    | rt v env =>
      rw [hbo] at q
      exact fun σ' H' p st r => q H' p (back_step ha ok hl st).1 (Rp.goes (Goes.shrink fun a z => z.elim .inl fun z => .inr ((back_step ha ok hl st).2.1 a z)) _ _ r)
    | rl ds env =>
      rw [hbo] at q
      refine fun σ' H' a ps st fr => q H' a ps (back_step ha ok hl st).1 ?_
      obtain ⟨b1, b2, b3⟩ := back_step ha ok hl st
      have g : Goes K (Al (With O0 a) env σ') H' (Al (With O0 a) (slots (backs as env)) (vs.map some)) H' := Goes.shrink fun b z => z.elim .inl fun z => .inr (b2 b z)
      have nw : H a = none := fr.new.elim id fun ⟨i, xs, e1, _⟩ => by
        have := arg_of ha (pad_get.mp e1)
        cases this
      exact ⟨nw, b3 _ fr.ok fun b z => z.elim .inl fun z => .inr (by rw [z]; exact nw), fr.at', Rps.goes g _ _ fr.rps⟩
    | bk env => rw [hbo] at q; exact q.elim
    | ct env => rw [hbo] at q; exact q.elim
    | ex c fs env =>
      rw [hbo] at q
      refine fun σ' H' cls d st xr => q H' cls d (back_step ha ok hl st).1 ?_
      obtain ⟨C, dd, ps, h1, h2, h3, h4, h5⟩ := xr
      exact ⟨C, dd, ps, h1, h2, h3, h4, Paired.mapP h5 fun f p z => ⟨z.1, Rp.goes (Goes.shrink fun a z => z.elim .inl fun z => .inr ((back_step ha ok hl st).2.1 a z)) _ _ z.2⟩⟩
    | stuck => rw [hbo] at q; exact q.elim
theorem fn_tells {P : Program} {w : World} {K : PySem.W.Frag} {mg : Str → Option Value} {base : Heap} {x qual : Str} {st : Stmt} {f : Addr} {fd : FuncData} {N ps : List Str} {k n m : Nat} {body : DS} (F : FunC K x qual st f fd) (S : FnScope N ps (defScope st)) (hn : N.length = n) (hm : ps.length = m) (hl : m ≤ n)
    (hb : ∀ (cdv : Value) (_ : fd.code = cdv) (A : Around) (outer : List Env) (s : Shared) (H : Hp) (E : XK), Gd (cxOf (L2.CX P w) P w K mg base N qual (defScope st) f cdv A outer s H E) (fun cls d _ H' => E cls d H') k →
      DSs (cxOf (L2.CX P w) P w K mg base N qual (defScope st) f cdv A outer s H E) (fun cls d _ H' => E cls d H') (defBody st) body) :
    FnG P w K mg base (L2.CX P w) (k + 1) f fd ps (spOf K mg m (runF n body)) := by
  subst hn
  subst hm
  exact fn_tells0 F S hb hl
end TL

namespace TL
open PySem PySem.Spec PyProof.Rows L2
variable [Tbl]

def refAt (env : En) (i : Nat) : Option Sl := match env[i]? with
  | some (some (.ow ds)) => some (.io ds)
  | some (some (.io ds)) => some (.io ds)
  | some (some (.sc ns)) => some (.sc ns)
  | _ => none
def putRef (env : En) (i : Nat) : Sl → List Sl → En
  | .io _, .io ds' :: _ => putOw env i ds'
  | _, _ => env
def Out.call (o : OutF) (f : List Sl → En) : Out (PyData × En) := match o with
  | .val v as => .ok (v, f as)
  | .fresh ds as => .ok (.list ds, f as)
  | .ex c fs as => .ex c fs (f as)
  | .stuck => .stuck
def Out.callF (o : OutF) (f : List Sl → En) : Out (List PyData × En) := match o with
  | .fresh ds as => .ok (ds, f as)
  | .ex c fs as => .ex c fs (f as)
  | _ => .stuck
def dCall (F : Fn) (ds : List D) : D := fun env => (dArgs ds env).bind fun (vs, e1) => Out.call (F (vs.map .pv)) fun _ => e1
def fCall (F : Fn) (ds : List D) : DL := fun env => (dArgs ds env).bind fun (vs, e1) => Out.callF (F (vs.map .pv)) fun _ => e1
def dCallS (F : Fn) (i : Nat) (ds : List D) : D := fun env => (Out.of (refAt env i)).bind fun _ => (dArgs ds env).bind fun (vs, e1) => (Out.of (refAt e1 i)).bind fun s => Out.call (F (s :: vs.map .pv)) fun as => putRef e1 i s as
def fCallS (F : Fn) (i : Nat) (ds : List D) : DL := fun env => (Out.of (refAt env i)).bind fun _ => (dArgs ds env).bind fun (vs, e1) => (Out.of (refAt e1 i)).bind fun s => Out.callF (F (s :: vs.map .pv)) fun as => putRef e1 i s as

section
variable {K : PySem.W.Frag} {mg : Str → Option Value} {O0 : Addr → Prop} {e1 : En} {σ : L2.St} {H1 H' : Hp} {i : Nat} {s : Sl} {p0 : V} {vs : List PyData} {ps : List V}
omit [Tbl] in
theorem all_arg (h : s.arg = true) : (s :: vs.map Sl.pv).all Sl.arg = true := by
  rw [List.all_cons, h, List.all_map]
  simp [Sl.arg]
omit [Tbl] in
theorem pv_own : ∀ {vs : List PyData} {ps : L2.St} {a : Addr}, ¬ Own (slots (vs.map .pv)) ps a := fun {vs ps a} ⟨i, s, h1, h2, _⟩ => by
  have := slots_get.mp h1
  rw [List.getElem?_map] at this
  cases h : vs[i]? with
  | none => rw [h] at this; cases this
  | some d =>
    rw [h] at this
    cases this
    cases h2
theorem ok_pure (ok : Ok K O0 e1 σ H1) (r : Rps K (Al O0 e1 σ) H1 vs ps) : Ok K (Al O0 e1 σ) (slots (vs.map .pv)) (ps.map some) H1 where
  len := by simp [slots, r.length]
  val := fun i s e => by
    have e' := slots_get.mp e
    rw [List.getElem?_map] at e'
    cases h : vs[i]? with
    | none => rw [h] at e'; cases e'
    | some d =>
      rw [h] at e'
      cases e'
      obtain ⟨v, h1, h2⟩ := r.get h
      exact ⟨v, vals_get.mpr h1, Rp.goes (Goes.shrink fun a z => z.elim id fun z => absurd z pv_own) _ _ h2⟩
  inj := fun i j s t a h1 h2 _ _ h5 _ => absurd ⟨i, s, h1, h2, h5⟩ pv_own
  lst := fun a h => ok.al h
  dis := fun a h => absurd h pv_own
  tab := ok.tab
theorem same_ok (ok : Ok K O0 e1 σ H1) (keep : ∀ a o, H1 a = some o → NT o → H' a = some o) (ht : LamX.Tabs Tbl.T H') : Ok K O0 e1 σ H' :=
  ok.goes ⟨fun b xs h n => ⟨keep _ _ h nt_lst, n⟩, fun b xs h => SqT.keep ok (fun a o h _ nt => keep a o h nt) h, fun b h => dic_keep ok (fun a o h _ nt => keep a o h nt) h⟩ (fun _ _ _ h => keep _ _ h nt_lst) (fun a ns h => h.elim (fun ⟨o, h⟩ => .inl ⟨o, keep _ _ h nt_frz⟩) .inr) (fun a h => by
    obtain ⟨xs, e⟩ := ok.lst a h
    exact ⟨xs, keep _ _ e nt_lst⟩) ok.dis ht
theorem pure_step {as' : List Sl} (ok : Ok K O0 e1 σ H1) (s : StpE K (Al O0 e1 σ) (slots (vs.map .pv)) (ps.map some) H1 (slots as') H') : StpE K O0 e1 σ H1 e1 H' :=
  have keep : ∀ a o, H1 a = some o → NT o → H' a = some o := fun a o h nt => s.keep a o h pv_own nt
  ⟨same_ok ok keep s.ok.tab, fun a o h _ nt => keep a o h nt, s.dom, fun _ h => h, fun i ds e => ⟨ds, e⟩⟩
def Oth (O0 : Addr → Prop) (e1 : En) (σ : L2.St) (s : Sl) (p0 : V) : Addr → Prop := fun a => Al O0 e1 σ a ∧ ¬ (s.mut = true ∧ p0 = .ref a)
theorem refAt_ok (ok : Ok K O0 e1 σ H1) (h : refAt e1 i = some s) : ∃ p0 t, σ[i]? = some (some p0) ∧ e1[i]? = some (some t) ∧ t.mut = s.mut ∧ s.arg = true ∧ RS K (Al O0 e1 σ) H1 s p0 ∧ (s.mut = true → ∃ a, p0 = .ref a) := by
  unfold refAt at h
  split at h
  · rename_i ds e
    cases h
    obtain ⟨v, h1, h2⟩ := ok.val i _ e
    exact ⟨v, _, h1, e, rfl, rfl, h2, fun _ => by obtain ⟨a, qs, h, _⟩ := h2; exact ⟨a, h⟩⟩
  · rename_i ds e
    cases h
    obtain ⟨v, h1, h2⟩ := ok.val i _ e
    exact ⟨v, _, h1, e, rfl, rfl, h2, fun _ => by obtain ⟨a, qs, h, _⟩ := h2; exact ⟨a, h⟩⟩
  · rename_i ns e
    cases h
    obtain ⟨v, h1, h2⟩ := ok.val i _ e
    exact ⟨v, _, h1, e, rfl, rfl, h2, fun z => by cases z⟩
  · cases h
omit [Tbl] in
theorem own_cons {a : Addr} : Own (slots (s :: vs.map .pv)) ((p0 :: ps).map some) a ↔ (s.mut = true ∧ p0 = .ref a) := by
  constructor
  · rintro ⟨j, t, h1, h2, h3⟩
    cases j with
    | zero =>
      have h1' := slots_get.mp h1
      have h3' := vals_get.mp h3
      simp at h1' h3'
      subst h1'
      exact ⟨h2, h3'⟩
    | succ j => exact absurd ⟨j, t, slots_get.mpr (by have := slots_get.mp h1; simpa using this), h2, vals_get.mpr (by have := vals_get.mp h3; simpa using this)⟩ (pv_own (vs := vs) (ps := ps.map some) (a := a))
  · rintro ⟨h1, h2⟩
    exact ⟨0, s, slots_get.mpr (by simp), h1, vals_get.mpr (by simp [h2])⟩
theorem ok_ref (ok : Ok K O0 e1 σ H1) (hs : σ[i]? = some (some p0)) {t : Sl} (ht : e1[i]? = some (some t)) (htm : t.mut = s.mut) (rs : RS K (Al O0 e1 σ) H1 s p0) (r : Rps K (Al O0 e1 σ) H1 vs ps) : Ok K (Oth O0 e1 σ s p0) (slots (s :: vs.map .pv)) ((p0 :: ps).map some) H1 := by
  have sub : ∀ a, Al (Oth O0 e1 σ s p0) (slots (s :: vs.map .pv)) ((p0 :: ps).map some) a → Al O0 e1 σ a := fun a z => z.elim (fun z => z.1) fun z => by
    obtain ⟨h1, h2⟩ := own_cons.mp z
    exact .inr ⟨i, t, ht, htm.trans h1, by rw [hs, h2]⟩
  refine ⟨by simp [slots, r.length], fun j u e => ?_, fun j l u w a h1 h2 h3 h4 h5 h6 => ?_, fun a h => ok.al h.1, fun a h z => z.2 (own_cons.mp h), ok.tab⟩
  · cases j with
    | zero =>
      have e' := slots_get.mp e
      simp at e'
      subst e'
      exact ⟨p0, vals_get.mpr (by simp), RS.shrink sub rs⟩
    | succ j =>
      have e' := slots_get.mp e
      simp only [List.getElem?_cons_succ, List.getElem?_map] at e'
      cases h : vs[j]? with
      | none => rw [h] at e'; cases e'
      | some d =>
        rw [h] at e'
        cases e'
        obtain ⟨v, h1, h2⟩ := r.get h
        exact ⟨v, vals_get.mpr (by simpa using h1), Rp.goes (Goes.shrink sub) _ _ h2⟩
  · have key : ∀ (j : Nat) (u : Sl), (slots (s :: vs.map .pv))[j]? = some (some u) → u.mut = true → j = 0 := fun j u h1 h2 => by
      cases j with
      | zero => rfl
      | succ j =>
        have e' := slots_get.mp h1
        simp only [List.getElem?_cons_succ, List.getElem?_map] at e'
        cases h : vs[j]? with
        | none => rw [h] at e'; cases e'
        | some d => rw [h] at e'; cases e'; cases h2
    rw [key j u h1 h2, key l w h3 h4]
theorem ref_step {as' : List Sl} (ok : Ok K O0 e1 σ H1) (hr : refAt e1 i = some s) (hs : σ[i]? = some (some p0)) {t : Sl} (ht : e1[i]? = some (some t)) (htm : t.mut = s.mut)
    (st : StpE K (Oth O0 e1 σ s p0) (slots (s :: vs.map .pv)) ((p0 :: ps).map some) H1 (slots as') H') :
    StpE K O0 e1 σ H1 (putRef e1 i s as') H' ∧ (∀ a, Al O0 (putRef e1 i s as') σ a → Al (Oth O0 e1 σ s p0) (slots as') ((p0 :: ps).map some) a) ∧
      ∀ b, H1 b = none → Ok K (With (Oth O0 e1 σ s p0) b) (slots as') ((p0 :: ps).map some) H' → Ok K (With O0 b) (putRef e1 i s as') σ H' := by
  have keep : ∀ a o, H1 a = some o → ¬ (s.mut = true ∧ p0 = .ref a) → NT o → H' a = some o := fun a o h n nt => st.keep a o h (fun z => n (own_cons.mp z)) nt
  cases s with
  | pv d => unfold refAt at hr; split at hr <;> cases hr
  | ow ds => unfold refAt at hr; split at hr <;> cases hr
  | sc ns =>
    have keep' : ∀ a o, H1 a = some o → NT o → H' a = some o := fun a o h nt => keep a o h (fun z => by cases z.1) nt
    have hp : putRef e1 i (.sc ns) as' = e1 := rfl
    rw [hp]
    refine ⟨⟨same_ok ok keep' st.ok.tab, fun a o h _ nt => keep' a o h nt, st.dom, fun _ h => h, fun j ds e => ⟨ds, e⟩⟩, fun a z => .inl ⟨z, fun z => by cases z.1⟩, fun b hb okb => ?_⟩
    refine ok.goes ⟨fun c xs h n => ⟨keep' _ _ h nt_lst, fun z => z.elim (fun z => z.elim (fun z => n (.inl z)) fun z => by rw [z, hb] at h; cases h) fun z => n (.inr z)⟩, fun c xs h => SqT.keep ok (fun a o h _ nt => keep' a o h nt) h, fun c h => dic_keep ok (fun a o h _ nt => keep' a o h nt) h⟩ (fun _ _ _ h => keep' _ _ h nt_lst) (fun a ns h => h.elim (fun ⟨o, h⟩ => .inl ⟨o, keep' _ _ h nt_frz⟩) .inr) (fun a z => z.elim (fun z => by
      obtain ⟨xs, e⟩ := ok.lst a z
      exact ⟨xs, keep' _ _ e nt_lst⟩) fun z => okb.lst a (.inr z)) (fun a h z => z.elim (ok.dis a h) fun z => by
        obtain ⟨xs, e⟩ := ok.own h
        rw [z, hb] at e
        cases e) st.ok.tab
  | io ds =>
    -- the slot's list, changed by the callee
    have ht' : ∃ a qs, p0 = .ref a ∧ H1 a = some (.lst qs) := by
      obtain ⟨v, h1, h2⟩ := ok.val i _ ht
      rw [hs] at h1
      cases h1
      cases t with
      | pv d => cases htm
      | sc ns => cases htm
      | ow es => obtain ⟨a, qs, f1, f2, _⟩ := h2; exact ⟨a, qs, f1, f2⟩
      | io es => obtain ⟨a, qs, f1, f2, _⟩ := h2; exact ⟨a, qs, f1, f2⟩
    obtain ⟨a0, qs0, rfl, ha0⟩ := ht'
    obtain ⟨ds', hds⟩ := st.io 0 ds (slots_get.mpr (by simp))
    have hds := slots_get.mp hds
    obtain ⟨r', rfl⟩ : ∃ r', as' = .io ds' :: r' := by
      cases as' with
      | nil => simp at hds
      | cons x r' =>
        have : x = .io ds' := by simpa using hds
        exact ⟨r', by rw [this]⟩
    have hp : putRef e1 i (.io ds) (.io ds' :: r') = e1.set i (some (t.put ds')) := by
      show putOw e1 i ds' = _
      unfold putOw
      rw [ht]
    rw [hp]
    have hm0 : Own e1 σ a0 := ⟨i, t, ht, htm, hs⟩
    have le : ∀ b, Own (e1.set i (some (t.put ds'))) σ b → Own e1 σ b := fun b ⟨j, u, hj, m, hb⟩ => by
      rcases get_set hj with ⟨h1, h2⟩ | ⟨h1, h2⟩
      · subst h1
        rw [hs] at hb
        cases hb
        exact hm0
      · exact ⟨j, u, h2, m, hb⟩
    have own0 : Own (slots (.io ds' :: r')) ((V.ref a0 :: ps).map some) a0 := ⟨0, Sl.io ds', slots_get.mpr (by simp), rfl, vals_get.mpr (by simp)⟩
    have sub : ∀ a, Al O0 (e1.set i (some (t.put ds'))) σ a → Al (Oth O0 e1 σ (.io ds) (.ref a0)) (slots (.io ds' :: r')) ((V.ref a0 :: ps).map some) a := fun a z => by
      by_cases h : a = a0
      · subst h
        exact .inr own0
      · exact .inl ⟨z.elim .inl fun z => .inr (le a z), fun z => h (V.ref.inj z.2).symm⟩
    have keep' : ∀ a o, H1 a = some o → a ≠ a0 → NT o → H' a = some o := fun a o h n nt => keep a o h (fun z => n (V.ref.inj z.2).symm) nt
    have main : ∀ O1 : Addr → Prop, (∀ a, O1 a → O0 a ∨ H1 a = none) → (∀ a, O1 a → ∃ xs, H' a = some (.lst xs)) → (∃ qs, H' a0 = some (.lst qs) ∧ Rps K (Al O1 (e1.set i (some (t.put ds'))) σ) H' ds' qs) → Ok K O1 (e1.set i (some (t.put ds'))) σ H' := fun O1 ho1 hl1 h0 => by
      have g : Goes K (Al O0 e1 σ) H1 (Al O1 (e1.set i (some (t.put ds'))) σ) H' :=
        ⟨fun c xs h n => ⟨keep' c _ h (fun z => n (.inr (by rw [z]; exact hm0))) nt_lst, fun z => z.elim (fun z => (ho1 c z).elim (fun z => n (.inl z)) fun z => by rw [h] at z; cases z) fun z => n (.inr (le c z))⟩,
         fun c xs h => SqT.keep ok (fun a o h n nt => keep' a o h (fun z => n (by rw [z]; exact hm0)) nt) h, fun c h => dic_keep ok (fun a o h n nt => keep' a o h (fun z => n (by rw [z]; exact hm0)) nt) h⟩
      refine ⟨by rw [List.length_set]; exact ok.len, fun j u hj => ?_, fun j l u w b hj mu hl mw hs1 hs2 => ?_, hl1, fun b h z => ?_, st.ok.tab⟩
      · rcases get_set hj with ⟨h1, h2⟩ | ⟨h1, h2⟩
        · subst h1
          cases h2
          refine ⟨_, hs, ?_⟩
          obtain ⟨qs, f1, f2⟩ := h0
          cases t with
          | pv d => cases htm
          | sc ns => cases htm
          | ow es => exact ⟨a0, qs, rfl, f1, f2⟩
          | io es => exact ⟨a0, qs, rfl, f1, f2⟩
        · obtain ⟨v, ev, rv⟩ := ok.val j u h2
          refine ⟨v, ev, ?_⟩
          cases u with
          | pv d => exact Rp.goes g _ _ rv
          | ow es =>
            obtain ⟨b, qs, f1, f2, f3⟩ := rv
            subst f1
            exact ⟨b, qs, rfl, keep' _ _ f2 (fun z => h1 (ok.inj i j _ _ a0 ht htm h2 rfl hs (by rw [ev, z]))) nt_lst, Rps.goes g _ _ f3⟩
          | io es =>
            obtain ⟨b, qs, f1, f2, f3⟩ := rv
            subst f1
            exact ⟨b, qs, rfl, keep' _ _ f2 (fun z => h1 (ok.inj i j _ _ a0 ht htm h2 rfl hs (by rw [ev, z]))) nt_lst, Rps.goes g _ _ f3⟩
          | sc ns =>
            obtain ⟨b, f1, f2⟩ := rv
            exact ⟨b, f1, f2.goes g fun f2 => f2.elim (fun ⟨o, h⟩ => .inl ⟨o, keep' _ _ h (fun z => by rw [z, ha0] at h; cases h) nt_frz⟩) .inr⟩
      · rcases get_set hj with ⟨h1, h2⟩ | ⟨h1, h2⟩
        · rcases get_set hl with ⟨h3, h4⟩ | ⟨h3, h4⟩
          · exact h1.symm.trans h3
          · subst h1
            exact ok.inj i l t w b ht htm h4 mw hs1 hs2
        · rcases get_set hl with ⟨h3, h4⟩ | ⟨h3, h4⟩
          · subst h3
            exact ok.inj j i u t b h2 mu ht htm hs1 hs2
          · exact ok.inj j l u w b h2 mu h4 mw hs1 hs2
      · rcases ho1 b z with z | z
        · exact ok.dis b (le b h) z
        · obtain ⟨xs, e⟩ := ok.own (le b h)
          rw [e] at z
          cases z
    have cont : ∀ (O2 : Addr → Prop), Ok K O2 (slots (.io ds' :: r')) ((V.ref a0 :: ps).map some) H' → ∃ qs, H' a0 = some (.lst qs) ∧ Rps K (Al O2 (slots (.io ds' :: r')) ((V.ref a0 :: ps).map some)) H' ds' qs := fun O2 ok2 => by
      obtain ⟨v, h1, a, qs, h2, h3, h4⟩ := ok2.val 0 (.io ds') (slots_get.mpr (by simp))
      have h1' := vals_get.mp h1
      simp at h1'
      subst h1'
      cases h2
      exact ⟨qs, h3, h4⟩
    refine ⟨⟨main O0 (fun a z => .inl z) (fun a z => ?_) ?_, fun a o h n nt => keep' a o h (fun z => n (by rw [z]; exact hm0)) nt, st.dom, le, fun j es e => ?_⟩, sub, fun b hb okb => main _ (fun a z => z.elim .inl fun z => .inr (by rw [z]; exact hb)) (fun a z => ?_) ?_⟩
    · obtain ⟨xs, e⟩ := ok.lst a z
      exact ⟨xs, keep' _ _ e (fun y => ok.dis a (by rw [y]; exact hm0) z) nt_lst⟩
    · obtain ⟨qs, f1, f2⟩ := cont _ st.ok
      exact ⟨qs, f1, Rps.goes (Goes.shrink sub) _ _ f2⟩
    · by_cases hij : i = j
      · subst hij
        rw [ht] at e
        cases e
        exact ⟨ds', by rw [List.getElem?_set_self (List.getElem?_eq_some_iff.mp ht).1]; rfl⟩
      · exact ⟨es, by rw [List.getElem?_set_ne hij]; exact e⟩
    · rcases z with z | z
      · obtain ⟨xs, e⟩ := ok.lst a z
        exact ⟨xs, keep' _ _ e (fun y => ok.dis a (by rw [y]; exact hm0) z) nt_lst⟩
      · exact okb.lst a (.inr z)
    · obtain ⟨qs, f1, f2⟩ := cont _ okb
      refine ⟨qs, f1, Rps.goes (Goes.shrink fun a z => ?_) _ _ f2⟩
      rcases z with (z | z) | z
      · exact (sub a (.inl z)).elim (fun z => .inl (.inl z)) .inr
      · exact .inl (.inr z)
      · exact (sub a (.inr z)).elim (fun z => .inl (.inl z)) .inr
end

structure Cal (P : Program) (w : World) (K : PySem.W.Frag) (mg : Str → Option Value) (base : Heap) (k : Nat) (x : Str) (n : Nat) (F : Fn) : Prop where
  ex : ∃ (f : Addr) (fd : FuncData) (ps : List Str), FnG P w K mg base (L2.CX P w) k f fd ps (spOf K mg n F) ∧ mg x = some (.ref f) ∧ PySem.W.keepIn K (.ref f) = true ∧ L2.Binds K fd ps []
theorem Cal.mono {P : Program} {w : World} {K : PySem.W.Frag} {mg : Str → Option Value} {base : Heap} {j k : Nat} {x : Str} {n : Nat} {F : Fn} (c : Cal P w K mg base j x n F) (h : j ≤ k) : Cal P w K mg base k x n F :=
  let ⟨f, fd, ps, h1, h2⟩ := c.ex
  ⟨f, fd, ps, h1.mono h, h2⟩
section
variable {X : Cx} {W : WX} {k j n : Nat} {e : Expr} {es : List Expr} {ds : List D} {pos p px : Pos} {x y : Str} {F : Fn}
theorem call_pure {O0 : Addr → Prop} {env : En} {σ : L2.St} {H : Hp} {Q : VK} (hn : ds.length = n) (ok : Ok X.K O0 env σ H)
    (q : EndE (Cx.pm X W O0) env σ H (fun v env' H' => ∀ p, Rp X.K (Al O0 env' σ) H' v p → Q p H') (dCall F ds env)) : tCallS (spOf X.K X.mg n F) (WE W) (tA (Cx.pm X W O0) (dArgs ds)) σ H Q := by
  refine ⟨env, ok, args_end (f := fun vs e1 => Out.call (F (vs.map .pv)) fun _ => e1) q fun vs e1 H1 hv s1 q1 ps rps => ?_⟩
  refine ⟨Al O0 e1 σ, vs.map .pv, by rw [List.length_map]; omega, by simp [Sl.arg], ok_pure s1.ok rps, ?_⟩
  cases hF : F (vs.map .pv) with
  | val v as' => rw [hF] at q1; exact fun H' p st r => q1 H' (pure_step s1.ok st) p (Rp.goes (Goes.shrink fun a z => .inl z) _ _ r)
  | fresh ds' as' => rw [hF] at q1; exact fun H' a qs st fr => q1 H' (pure_step s1.ok st) _ (by
      have := fr.rp (fun z => by obtain ⟨xs, e⟩ := s1.ok.al z; rw [fr.new] at e; cases e)
      exact Rp.goes (Goes.shrink fun a z => .inl z) _ _ this)
  | ex c fs as' =>
    rw [hF] at q1
    refine fun H' cls d st xr => q1 H' cls d (pure_step s1.ok st) ?_
    obtain ⟨C, dd, qs, h1, h2, h3, h4, h5⟩ := xr
    exact ⟨C, dd, qs, h1, h2, h3, h4, Paired.mapP h5 fun f p z => ⟨z.1, Rp.goes (Goes.shrink fun a z => .inl z) _ _ z.2⟩⟩
  | stuck => rw [hF] at q1; exact q1.elim
theorem de_call (G : Gd X W k) (c : Cal X.prog X.w X.K X.mg X.base j x n F) (hj : j ≤ k) (ha : DAs X W (e :: es) (dArgs ds)) (hn : ds.length = n := by rfl) (hg : Gl X x := by rfl) (hdb : (x == ("__debug__" : Str)) = false := by decide) (he : starEach (e :: es) X.env = (false, eval e X.env) :: starEach es X.env := by rfl) (hpl : (backTo pos (starEach es X.env)).any (·.1) = false := by rfl) :
    DE X W (.Call (.Name x p) (e :: es) [] pos) (dCall F ds) := fun O0 => by
  obtain ⟨f, fd, ps, hf, hm, hk, hb⟩ := c.ex
  exact PE.imp (pe_callG (hf.mono hj) G.room G.gd hg hm hk hb (fun σ => passAt G.takes σ) (ha O0) hdb he hpl) fun σ H Q ⟨env, ok, q⟩ => call_pure hn ok q
theorem de_callR {i : Nat} (G : Gd X W k) (c : Cal X.prog X.w X.K X.mg X.base j x (n + 1) F) (hj : j ≤ k) (hx : PE X (.Name y px) (tVar i)) (ha : DAs X W es (dArgs ds)) (hn : ds.length = n := by rfl) (hg : Gl X x := by rfl) (hdb : (x == ("__debug__" : Str)) = false := by decide) (he : starEach (.Name y px :: es) X.env = (false, eval (.Name y px) X.env) :: starEach es X.env := by rfl) (hpl : (backTo pos (starEach es X.env)).any (·.1) = false := by rfl) :
    DE X W (.Call (.Name x p) (.Name y px :: es) [] pos) (dCallS F i ds) := fun O0 => by
  obtain ⟨f, fd, ps, hf, hm, hk, hb⟩ := c.ex
  refine PE.imp (pe_callG (hf.mono hj) G.room G.gd hg hm hk hb (fun σ => passAt G.takes σ) (pa_cons hx (ha O0) he) hdb he hpl) fun σ H Q ⟨env, ok, q⟩ => ?_
  obtain ⟨s0, hs0, q⟩ := EndE.of q
  obtain ⟨p0, t0, h1, _⟩ := refAt_ok ok hs0
  refine ⟨p0, h1, env, ok, args_end (f := fun vs e1 => (Out.of (refAt e1 i)).bind fun s => Out.call (F (s :: vs.map .pv)) fun as => putRef e1 i s as) q fun vs e1 H1 hv s1 q1 ps rps => ?_⟩
  obtain ⟨s, hs, q1⟩ := EndE.of q1
  obtain ⟨p1, t, f1, f2, f3, f4, f5, _⟩ := refAt_ok s1.ok hs
  rw [h1] at f1
  cases f1
  refine ⟨Oth O0 e1 σ s p0, s :: vs.map .pv, by rw [List.length_cons, List.length_map]; omega, all_arg f4, ok_ref s1.ok h1 f2 f3 f5 rps, ?_⟩
  cases hF : F (s :: vs.map .pv) with
  | val v as' =>
    rw [hF] at q1
    refine fun H' p st r => ?_
    obtain ⟨g1, g2, _⟩ := ref_step s1.ok hs h1 f2 f3 st
    exact q1 H' g1 p (Rp.goes (Goes.shrink g2) _ _ r)
  | fresh ds' as' =>
    rw [hF] at q1
    refine fun H' a qs st fr => ?_
    obtain ⟨g1, g2, _⟩ := ref_step s1.ok hs h1 f2 f3 st
    exact q1 H' g1 _ (Rp.goes (Goes.shrink g2) _ _ (fr.rp (fun z => by obtain ⟨xs, e⟩ := s1.ok.al z.1; rw [fr.new] at e; cases e)))
  | ex c fs as' =>
    rw [hF] at q1
    refine fun H' cls d st xr => ?_
    obtain ⟨g1, g2, _⟩ := ref_step s1.ok hs h1 f2 f3 st
    refine q1 H' cls d g1 ?_
    obtain ⟨C, dd, qs, h1, h2, h3, h4, h5⟩ := xr
    exact ⟨C, dd, qs, h1, h2, h3, h4, Paired.mapP h5 fun f p z => ⟨z.1, Rp.goes (Goes.shrink g2) _ _ z.2⟩⟩
  | stuck => rw [hF] at q1; exact q1.elim
theorem df_callR {i : Nat} (G : Gd X W k) (c : Cal X.prog X.w X.K X.mg X.base j x (n + 1) F) (hj : j ≤ k) (hx : PE X (.Name y px) (tVar i)) (ha : DAs X W es (dArgs ds)) (hn : ds.length = n := by rfl) (hg : Gl X x := by rfl) (hdb : (x == ("__debug__" : Str)) = false := by decide) (he : starEach (.Name y px :: es) X.env = (false, eval (.Name y px) X.env) :: starEach es X.env := by rfl) (hpl : (backTo pos (starEach es X.env)).any (·.1) = false := by rfl) :
    DF X W (.Call (.Name x p) (.Name y px :: es) [] pos) (fCallS F i ds) := fun O0 => by
  obtain ⟨f, fd, ps, hf, hm, hk, hb⟩ := c.ex
  refine PE.imp (pe_callG (hf.mono hj) G.room G.gd hg hm hk hb (fun σ => passAt G.takes σ) (pa_cons hx (ha O0) he) hdb he hpl) fun σ H Q ⟨env, ok, q⟩ => ?_
  obtain ⟨s0, hs0, q⟩ := EndE.of q
  obtain ⟨p0, t0, h1, _⟩ := refAt_ok ok hs0
  refine ⟨p0, h1, env, ok, ?_⟩
  cases hd : dArgs ds env with
  | ex c fs e1 => rw [hd] at q; exact q
  | stuck => rw [hd] at q; exact q
  | ok pr =>
    obtain ⟨vs, e1⟩ := pr
    rw [hd] at q
    intro H1 s1 ps rps
    have hv := dArgs_len _ _ _ _ hd
    obtain ⟨s, hs, q1⟩ := EndE.of (show EndE _ _ _ _ _ ((Out.of (refAt e1 i)).bind _) from q)
    obtain ⟨p1, t, f1, f2, f3, f4, f5, _⟩ := refAt_ok s1.ok hs
    rw [h1] at f1
    cases f1
    refine ⟨Oth O0 e1 σ s p0, s :: vs.map .pv, by rw [List.length_cons, List.length_map]; omega, all_arg f4, ok_ref s1.ok h1 f2 f3 f5 rps, ?_⟩
    cases hF : F (s :: vs.map .pv) with
    | val v as' => rw [hF] at q1; exact q1.elim
    | fresh ds' as' =>
      rw [hF] at q1
      refine fun H' a qs st fr => ?_
      obtain ⟨g1, g2, g3⟩ := ref_step s1.ok hs h1 f2 f3 st
      refine q1 H' (s1.trans g1) a qs ⟨s1.no fr.new, g3 a fr.new fr.ok, fr.at', Rps.goes (Goes.shrink fun b z => ?_) _ _ fr.rps⟩
      rcases z with (z | z) | z
      · exact (g2 b (.inl z)).elim (fun z => .inl (.inl z)) .inr
      · exact .inl (.inr z)
      · exact (g2 b (.inr z)).elim (fun z => .inl (.inl z)) .inr
    | ex c fs as' =>
      rw [hF] at q1
      refine fun H' cls d st xr => ?_
      obtain ⟨g1, g2, _⟩ := ref_step s1.ok hs h1 f2 f3 st
      refine q1 H' cls d (s1.trans g1) ?_
      obtain ⟨C, dd, qs, h1, h2, h3, h4, h5⟩ := xr
      exact ⟨C, dd, qs, h1, h2, h3, h4, Paired.mapP h5 fun f p z => ⟨z.1, Rp.goes (Goes.shrink g2) _ _ z.2⟩⟩
    | stuck => rw [hF] at q1; exact q1.elim
end
end TL

namespace TL
open PySem PySem.Spec PyProof.Rows L2
abbrev ovT : List Value := [.type "OverflowError", .type "ArithmeticError", .type "Exception", .type "BaseException", .type "object"]
structure OexO (K : PySem.W.Frag) (C : Addr) : Prop where
  row : ∃ nm q N bs sn sub ab col dd k0 k1 k2 k3 k5, K.lookup C = some (excClassObj nm q C N bs ovT true sn sub ab col dd k0 k1 k2 k3 k5 "OverflowError.__new__")
  put : PySem.W.findIn K (.ref C) "__setattr__" = some (some (.builtin "object.__setattr__"))
  sub : PySem.W.subIn K (.ref C) (.type "BaseException") = some true
  typ : PySem.W.typeIn K (.ref C) = some (.type "type")
  kept : PySem.W.keepIn K (.ref C) = true
section
open Builtin Builtin.ObjectAttr PySem.W PySem.Calls
variable {P : Program} {w : World} {A : Around} {E : Value → Shared → Prop} {R : Result → Shared → Prop} {hp : Heap} {g : Array GenState} {d : Drawn} {t : Nat} {os : OsState}
end
section
variable {X : Cx} {pins : List (Addr × Obj)} {σ : L2.St} {H : Hp} {s : Shared} {a C : Addr} {f : Str} {y : V} {u : Value} {Q : Unit → Shared → Prop} {E : Value → Shared → Prop} {A : Around}
end
section
variable {X : Cx} {e : Expr} {es : List Expr} {ta : TA} {te to : TE} {o : Expr} {f : Str} {p1 p2 p pos p' : Pos}
theorem pmk_ov {CX : CXT} {x : Str} {C fI : Addr} {k : Nat} {fd : FuncData} {ps : List Str} {sp : Sp} (T : OexO X.K C) (iC : PySem.W.findIn X.K (.ref C) "__init__" = some (some (.ref fI))) (tI : PySem.W.typeIn X.K (.ref fI) = some (.type "function"))
    (F1 : FnOk X.prog X.w X.K X.mg X.base CX k fI fd ps sp) (hr : Room (k + 1) X.A) (hb : L2.Binds X.K fd ps []) (hx : Passes CX X (fun _ _ _ => False)) (hg : Gl X x) (hm : X.mg x = some (.ref C)) (ha : PA X (e :: es) ta)
    (hd : (x == ("__debug__" : Str)) = false := by decide) (hs : starEach (e :: es) X.env = (false, eval e X.env) :: starEach es X.env := by rfl) (hp : (backTo pos (starEach es X.env)).any (·.1) = false := by rfl) :
    PMk X (.Call (.Name x p) (e :: es) [] pos) (tMkO C sp [] ta) := by
  intro pins s σ H Q I h0
  obtain ⟨nm, q, N, bs, sn, sub, ab, col, dd, k0, k1, k2, k3, k5, eC⟩ := T.row
  refine wpAny_Call_Name_kw (ld_glob I hg hm ?_ hd)
  refine PySem.W.callWith_K (h₀ := X.base) I.ok.mod.kin T.kept (thn (ha.run pos pins s σ H _ I h0) ?_) hs hp
  rintro us s1 ⟨vs, H1, I1, r1, hz, q1⟩
  refine ⟨I1.kIn, ?_⟩
  show wpAny _ _ (call (.ref C) us) _ _ _
  obtain ⟨hp, g, dr, tk, os⟩ := s1
  have up : hp.objs.size ≤ hp.objs.size + 1 := Nat.le_succ _
  have hq := q1 _ (I1.hok.fresh up)
  have kp : ∀ b o, hp.get? b = some o → ((hp.push (PySem.W.kdv_tup us)).push (PySem.HandSPX.excO C hp.objs.size)).get? b = some o := fun b o z => Heap.get?_push_of_some _ (Heap.get?_push_of_some _ z)
  have got : ((hp.push (PySem.W.kdv_tup us)).push (PySem.HandSPX.excO C hp.objs.size)).get? (hp.objs.size + 1) = some (PySem.HandSPX.excO C hp.objs.size) := by heap_get
  have J := I1.laid (t' := tk) (a := hp.objs.size + 1) (o := exo (hp.objs.size + 1) C none) (h' := (hp.push (PySem.W.kdv_tup us)).push (PySem.HandSPX.excO C hp.objs.size)) kp up (exo_ok got)
  rw [List.append_nil] at hq
  have r2 : Vals (V.ref (hp.objs.size + 1) :: vs) (Value.ref (hp.objs.size + 1) :: us) := .cons rfl r1
  have ln : (Value.ref (hp.objs.size + 1) :: us).length = ps.length := by
    have z := r2.length
    rw [F1.len _ _ _ _ hq] at z
    exact z.symm
  have lu : us.length ≤ sizeLine := by
    have := Paired.length r1
    rw [sizeLine_eq]
    omega
  have run := F1.run _ X.stack _ _ ⟨Value.ref (hp.objs.size + 1) :: us, []⟩ (Value.ref (hp.objs.size + 1) :: us) _ _ (fun _ _ _ => False) (hr.make C us []) (J.env0.make C us []) ?bd r2 hq
  case bd =>
    have z := hb _ (Value.ref (hp.objs.size + 1) :: us) J.kIn (by rw [List.append_nil]; exact ln)
    rw [List.append_nil] at z
    exact z
  refine wpAny_call (PySem.HandSPX.call_own F.excBase_OverflowError (fun _ => rfl) (I1.kIn _ _ eC) (PySem.W.looks_findIn I1.kIn iC) (fun self => PySem.W.bind_fn I1.kIn self tI) lu (codeAny_mono run ?_))
  intro r s2 z
  cases r with
  | error er => exact hx pins σ _ _ er s2 J z
  | ok fl =>
    cases fl with
    | ret u =>
      obtain ⟨v, H2, o2, b2, un2, ok2, rv, rfl, d, fs, ea, ed, n1, q2⟩ := z
      obtain ⟨h2, g2, d2, t2, o3⟩ := s2
      exact ⟨rv, mk_end (raises_own T.sub T.typ) I1 up kp un2 ok2 o2 b2 ea ed n1 q2⟩
    | next => exact z.elim
    | brk => exact z.elim
    | cont => exact z.elim
end
end TL

namespace TL
open PySem PySem.Spec PyProof.Rows L2
variable [Tbl]

def spInitG (B : PySem.W.Frag → Addr → Prop) (K : PySem.W.Frag) (attr : Str) : Sp := fun vs H Q _ => ∃ (a C : Addr) (y : V), vs = [.ref a, y] ∧ H a = some (exo a C none) ∧ B K C ∧ PySem.W.findIn K (.ref C) attr = some none ∧
  ∀ dx, H dx = none → dx ≠ a → Q .non (upd (upd H dx (exd dx [(attr, y)])) a (exo a C (some dx)))
def MkE (P : Program) (w : World) (K : PySem.W.Frag) (mg : Str → Option Value) (base : Heap) (attr : Str) (C : Addr) (B : PySem.W.Frag → Addr → Prop) : Prop := B K C ∧ ∃ (fI : Addr) (fd : FuncData) (ps : List Str), PySem.W.findIn K (.ref C) "__init__" = some (some (.ref fI)) ∧ PySem.W.typeIn K (.ref fI) = some (.type "function") ∧ FnOk P w K mg base (L2.CX P w) 1 fI fd ps (spInitG B K attr) ∧ L2.Binds K fd ps []
structure EclA (P : Program) (w : World) (K : PySem.W.Frag) (mg : Str → Option Value) (base : Heap) (c attr : Str) (C : Addr) : Prop where
  gC : mg c = some (.ref C)
  xf : XfC K C
  no : PySem.W.findIn K (.ref C) attr = some none
  made : MkE P w K mg base attr C OexC ∨ MkE P w K mg base attr C OexO
def Ecl (P : Program) (w : World) (K : PySem.W.Frag) (mg : Str → Option Value) (base : Heap) (c attr : Str) : Prop := ∃ C, EclA P w K mg base c attr C

def dRaise (c attr : Str) (d : D) : DS := fun env => (d env).goS fun v e1 => .ex c [(attr, v)] e1
section
variable {X : Cx} {W : WX} {k : Nat} {e a b : Expr} {d da db : D} {pos p pos2 p' : Pos} {x attr : Str}
theorem ds_raise (G : Gd X W k) (h2 : 2 ≤ k) (c : Ecl X.prog X.w X.K X.mg X.base x attr) (he : DE X W e d) (hg : Gl X x := by rfl) (hdb : (x == ("__debug__" : Str)) = false := by decide) (hs : starEach [e] X.env = (false, eval e X.env) :: starEach [] X.env := by rfl) (hpl : (backTo pos (starEach [] X.env)).any (·.1) = false := by rfl) :
    DSt X W (.Raise (some (.Call (.Name x p) [e] [] pos)) none pos2) (dRaise x attr d) := fun O0 => by
  obtain ⟨C, c⟩ := c
  have go : ∀ B : PySem.W.Frag → Addr → Prop, B X.K C → PMk X (.Call (.Name x p) [e] [] pos) (tMkO C (spInitG B X.K attr) [] (tCons (tD (Cx.pm X W O0) d) tNil)) → PS X (.Raise (some (.Call (.Name x p) [e] [] pos)) none pos2) (tS (Cx.pm X W O0) (dRaise x attr d)) := fun B hB m => by
    refine PS.imp (ps_raise G.calm G.takes m) fun Dn σ H ⟨env, ok, q⟩ => ?_
    refine ⟨env, ok, EndE.goS q fun v e1 H1 s1 q1 y rp => ⟨by simp, fun a na => ⟨a, C, y, by simp, upd_same, hB, c.no, fun dx nd ne => ?_⟩⟩⟩
    have nd1 : H1 dx = none := by
      rw [upd_ne ne] at nd
      exact nd
    refine ⟨rfl, dx, [(attr, y)], upd_same, by rw [upd_ne ne, upd_same], nd1, ?_⟩
    have eh : upd (del (upd (upd (upd H1 a (exo a C none)) dx (exd dx [(attr, y)])) a (exo a C (some dx))) a) dx (.xd [(attr, y)]) = upd H1 dx (.xd [(attr, y)]) := by
      funext b
      by_cases hb : b = dx
      · subst hb
        rw [upd_same, upd_same]
      · rw [upd_ne hb, upd_ne hb]
        by_cases hba : b = a
        · subst hba
          rw [del_same, na]
        · rw [del_ne hba, upd_ne hba, upd_ne hb, upd_ne hba]
    rw [eh]
    have st := StpE.new (o := .xd [(attr, y)]) s1.ok nd1
    exact q1 σ _ _ _ st.step ⟨C, dx, _, c.gC, rfl, rfl, upd_same, .cons ⟨rfl, st.step.rp s1.ok rp⟩ .nil⟩
  rcases c.made with ⟨hB, fI, fd, ps, h3, h4, h5, h6⟩ | ⟨hB, fI, fd, ps, h3, h4, h5, h6⟩
  · exact go OexC hB (pmk_oex hB h3 h4 h5 (G.room.mono h2) h6 .nil passL hg c.gC (pa_cons (he O0) pa_nil hs) hdb hs hpl)
  · exact go OexO hB (pmk_ov hB h3 h4 h5 (G.room.mono h2) h6 passL hg c.gC (pa_cons (he O0) pa_nil hs) hdb hs hpl)

theorem XRep.step {mg : Str → Option Value} {K : PySem.W.Frag} {O0 : Addr → Prop} {env env' : En} {σ σ' : L2.St} {H H' : Hp} {c : Str} {fs : List (Str × PyData)} {cls : Value} {d : Option Addr} (ok : Ok K O0 env σ H) (s : Stp K O0 env σ H env' σ' H') (x : XRep mg K (Al O0 env σ) H c fs cls d) : XRep mg K (Al O0 env' σ') H' c fs cls d := by
  obtain ⟨C, dd, ps, h1, h2, h3, h4, h5⟩ := x
  have nw : ¬ Own env σ dd := fun z => by
    obtain ⟨xs, e⟩ := ok.own z
    rw [h4] at e
    cases e
  exact ⟨C, dd, ps, h1, h2, h3, s.keep dd _ h4 nw, Paired.mapP h5 fun f p z => ⟨z.1, s.rp ok z.2⟩⟩
abbrev DX := Str → List (Str × PyData) → D
abbrev WF : WX := fun _ _ _ _ => False
structure Hd where
  a : Addr
  cls : Value
  d : Option Addr
  i : Nat
def tX (Y : Pm) (h : Hd) (f : DX) : TE := fun σ H Q => ∃ env c fs, Ok Y.K Y.O0 env σ H ∧ XRep Y.mg Y.K (Al Y.O0 env σ) H c fs h.cls h.d ∧ σ[h.i]? = some (some (.ref h.a)) ∧ EndE Y env σ H (fun v env' H' => ∀ p, Rp Y.K (Al Y.O0 env' σ) H' v p → Q p H') (f c fs env)
def tXA (Y : Pm) (h : Hd) (f : Str → List (Str × PyData) → List D) : TA := fun σ H Q => ∃ env c fs, Ok Y.K Y.O0 env σ H ∧ XRep Y.mg Y.K (Al Y.O0 env σ) H c fs h.cls h.d ∧ σ[h.i]? = some (some (.ref h.a)) ∧ EndE Y env σ H (fun vs env' H' => ∀ p, Rps Y.K (Al Y.O0 env' σ) H' vs p → Q p H') (dArgs (f c fs) env)
def XE' (X : Cx) (h : Hd) (x : Expr) (f : DX) : Prop := ∀ O0, PE X x (tX (Cx.pm X WF O0) h f)
def XAs (X : Cx) (h : Hd) (xs : List Expr) (f : Str → List (Str × PyData) → List D) : Prop := ∀ O0, PA X xs (tXA (Cx.pm X WF O0) h f)
variable {h : Hd}
theorem xe_of (hd : DE X WF e d) : XE' X h e (fun _ _ => d) := fun O0 => PE.imp (hd O0) fun σ H Q ⟨env, c, fs, ok, x, hi, q⟩ => ⟨env, ok, q⟩
theorem xas_nil : XAs X h [] (fun _ _ => []) := fun O0 => PA.imp pa_nil fun σ H Q ⟨env, c, fs, ok, x, hi, q⟩ => q H (StpE.refl ok) [] .nil
theorem xas_cons {es : List Expr} {f : DX} {r : Str → List (Str × PyData) → List D} (h1 : XE' X h e f) (h2 : XAs X h es r) (hs : starEach (e :: es) X.env = (false, eval e X.env) :: starEach es X.env := by rfl) : XAs X h (e :: es) (fun c fs => f c fs :: r c fs) := fun O0 =>
  PA.imp (pa_cons (h1 O0) (h2 O0) hs) fun σ H Q ⟨env, c, fs, ok, x, hi, q⟩ => ⟨env, c, fs, ok, x, hi, EndE.bind q fun v e1 H1 s1 q1 p rp => ⟨e1, c, fs, s1.ok, x.step ok s1.step, hi, EndE.bind q1 fun vs e2 H2 s2 q2 ps rps => q2 H2 (StpE.refl s2.ok) (p :: ps) (.cons (s2.step.rp s1.ok rp) rps)⟩⟩
theorem xe_tup {es : List Expr} {f : Str → List (Str × PyData) → List D} {x1 : Nat} {n : Nat} (hx : XAs X h es f) (hn : ∀ c fs, (f c fs).length = n := by intros; rfl) (hl : n ≤ 1000 := by decide) : XE' X h (.Tuple es x1 pos) (fun c fs => dTup (f c fs)) := fun O0 =>
  PE.imp (pe_tup (hx O0)) fun σ H Q ⟨env, c, fs, ok, x, hi, q⟩ => ⟨env, c, fs, ok, x, hi, args_end (f := fun vs e1 => .ok (.tuple vs, e1)) q fun vs e1 H1 hv s1 q1 ps rps =>
    ⟨by rw [← rps.length, hv, hn]; exact Nat.le_of_lt (small1000 hl), fun p hp => q1 _ (StpE.new s1.ok hp) _ (Rp.newT hp rps)⟩⟩
def xTold (known : Str → Bool) (attr : Str) : DX := fun c fs env => if known c = true then (Out.of (fs.lookup attr)).bind fun v => .ok (v, env) else .stuck
omit [Tbl] in
theorem lookup_rep {K : PySem.W.Frag} {O : Addr → Prop} {H : Hp} {attr : Str} {v : PyData} : ∀ {fs : List (Str × PyData)} {ps : List (Str × V)}, Paired (fun (f : Str × PyData) (p : Str × V) => f.1 = p.1 ∧ Rp K O H f.2 p.2) fs ps → fs.lookup attr = some v → ∃ y, ps.lookup attr = some y ∧ Rp K O H v y
  | _, _, .nil, e => by cases e
  | (f, u) :: fs, (g, y) :: ps, .cons ⟨h1, h2⟩ r, e => by
    simp only [List.lookup] at e ⊢
    have h1' : f = g := h1
    subst h1'
    cases hf : attr == f with
    | true =>
      rw [hf] at e
      cases e
      exact ⟨y, rfl, h2⟩
    | false =>
      rw [hf] at e
      exact lookup_rep r e
theorem xe_told {W : WX} {k : Nat} (h : Hd) {oe : Obj} {pn : List (Addr × Obj)} {known : Str → Bool} (G : Gd X W k) (hk : ∀ c, known c = true → Ecl X.prog X.w X.K X.mg X.base c attr) (hz : Zc h.cls h.d oe) (hf : ∃ vs, oe.data = .fields vs) (he : PE (Cx.suite X h.a ((h.a, oe) :: pn)) e (tVar h.i)) (hb : attributeBase e attr X.env (eval e X.env) = eval e X.env := by rfl) :
    XE' (Cx.suite X h.a ((h.a, oe) :: pn)) h (.Attribute e attr pos) (xTold known attr) := fun O0 => ⟨fun pins s σ H Q I ⟨env, c, fs, ok, x, hi, q⟩ => by
  unfold xTold at q
  split at q
  · rename_i hc
    obtain ⟨v, hv, q⟩ := EndE.of q
    obtain ⟨C, dd, ps, h1, h2, h3, h4, h5⟩ := x
    obtain ⟨C', E⟩ := hk c hc
    have : C' = C := by
      have := E.gC.symm.trans h1
      cases this
      rfl
    subst this
    obtain ⟨y, hy, ry⟩ := lookup_rep h5 hv
    exact (pe_xf E.xf E.no hz hf he hb).run pins s σ H Q I ⟨_, hi, rfl, h2, dd, ps, y, h3, h4, hy, q H (StpE.refl ok) y ry⟩
  · exact q.elim⟩
def xIs (known : Str → Bool) : DX := fun c _ env => if known c = true then .ok (.bool true, env) else .stuck
omit [Tbl] in
theorem call_isT {X : Cx} {a D C : Addr} {d : Option Addr} {oe : Obj} {pn : List (Addr × Obj)} (hz : Zc (.ref D) d oe) (hf : ∃ vs, oe.data = .fields vs) (hi : PySem.W.isIn X.K (.ref D) C = true) :
    CallR (X.suite a ((a, oe) :: pn)) (.builtin "isinstance") (fun xs H Q => xs = [.ref a, .ref C] ∧ (∀ dd, d = some dd → ∃ ps, H dd = some (.xd ps)) ∧ Q (.bl true) H) := by
  intro pins s σ H xs us Q I r ⟨e, hd, q⟩
  subst e
  obtain ⟨u1, u2, rfl, r1, r2⟩ := vals2 r
  cases r1
  cases r2
  obtain ⟨hget, _⟩ := I.pin (a, oe) (List.mem_append.mpr (.inl List.mem_cons_self))
  obtain ⟨vs, hv⟩ := hf
  have J : ∃ od, PySem.W.InstAt s.heap a oe D od := by
    cases hdd : d with
    | none => exact ⟨none, hget, hz.1, by unfold PySem.W.notCls; rw [hv] <;> rfl, by rw [hz.2, hdd]; trivial⟩
    | some dd =>
      obtain ⟨ps, hp⟩ := hd dd hdd
      obtain ⟨mA, hns, _⟩ := (show ObjOk X.prog X.w H s.heap dd (.xd ps) from I.hok dd _ hp)
      obtain ⟨od, ho, _⟩ := lookIn_ns hns
      exact ⟨some od, hget, hz.1, by unfold PySem.W.notCls; rw [hv] <;> rfl, by rw [hz.2, hdd]; exact ho⟩
  obtain ⟨od, J⟩ := J
  refine PyProof.Rows.call_isinstance_of ?_ (fun z => nomatch z)
  exact PySem.W.isi_nested (Q := _) I.kIn J.type hi ⟨.bl true, H, I, rfl, q⟩
theorem xe_is {W : WX} {k : Nat} (h : Hd) {oe : Obj} {pn : List (Addr × Obj)} {known : Str → Bool} {C : Addr} {px : Pos} {y : Str} (G : Gd X W k) (hk : ∀ c D, known c = true → X.mg c = some (.ref D) → PySem.W.isIn X.K (.ref D) C = true) (hz : Zc h.cls h.d oe) (hf : ∃ vs, oe.data = .fields vs) (hmi : X.mg "isinstance" = none) (he : PE (Cx.suite X h.a ((h.a, oe) :: pn)) e (tVar h.i)) (hC : X.mg y = some (.ref C)) (hgy : Gl X y := by rfl) (hdy : (y == ("__debug__" : Str)) = false := by decide)
    (hg : Gl X "isinstance" := by rfl) (hs : starEach [e, .Name y px] X.env = (false, eval e X.env) :: starEach [.Name y px] X.env := by rfl) (hs2 : starEach [.Name y px] X.env = (false, eval (.Name y px) X.env) :: starEach [] X.env := by rfl) (hpl : (backTo pos (starEach [.Name y px] X.env)).any (·.1) = false := by rfl) :
    XE' (Cx.suite X h.a ((h.a, oe) :: pn)) h (.Call (.Name "isinstance" p) [e, .Name y px] [] pos) (xIs known) := fun O0 => ⟨fun pins s σ H Q I ⟨env, c, fs, ok, x, hi, q⟩ => by
  unfold xIs at q
  split at q
  · rename_i hc
    obtain ⟨D, dd, ps, h1, h2, h3, h4, h5⟩ := x
    have hz' : Zc (.ref D) h.d oe := by rw [← h2]; exact hz
    exact (pe_callB (X := Cx.suite X h.a ((h.a, oe) :: pn)) (call_isT hz' hf (hk c D hc h1)) hg hmi (by decide +kernel) (pa_cons he (pa_cons (pe_glob (v := .ref C) hgy hC rfl hdy) pa_nil hs2) hs) (by decide) (by decide) hs hpl).run pins s σ H Q I
      ⟨_, hi, rfl, fun d' hd' => ⟨ps, by rw [h3] at hd'; cases hd'; exact h4⟩, q H (StpE.refl ok) _ (.bl true)⟩
  · exact q.elim⟩
end
end TL

namespace TL
open PySem PySem.Spec PyProof.Rows L2
variable [Tbl]

theorem Stp.drop {K : PySem.W.Frag} {O0 : Addr → Prop} {env : En} {σ : L2.St} {H : Hp} (ok : Ok K O0 env σ H) {i : Nat} {x : Option V} (hf : free? env i = true) : Stp K O0 env σ H (env.set i none) (σ.set i x) H := by
  have old : ∀ (j : Nat) (s : Sl), (env.set i none)[j]? = some (some s) → i ≠ j ∧ env[j]? = some (some s) := fun j s h => by
    rcases get_set h with ⟨h1, h2⟩ | h
    · cases h2
    · exact h
  have le : ∀ a, Own (env.set i none) (σ.set i x) a → Own env σ a := fun a ⟨j, s, h1, m, h2⟩ => by
    obtain ⟨ne, h⟩ := old j s h1
    rw [List.getElem?_set_ne ne] at h2
    exact ⟨j, s, h, m, h2⟩
  have sub : ∀ a, Al O0 (env.set i none) (σ.set i x) a → Al O0 env σ a := fun a z => z.elim .inl fun z => .inr (le a z)
  refine ⟨⟨by rw [List.length_set, List.length_set]; exact ok.len, fun j s h => ?_, fun j l s t a h1 m1 h2 m2 h3 h4 => ?_, ok.lst, fun a h => ok.dis a (le a h), ok.tab⟩, fun _ _ h _ _ => h, fun _ h => h, fun a h => .inl (le a h), fun j ds h => ?_⟩
  · obtain ⟨ne, h⟩ := old j s h
    obtain ⟨v, ev, r⟩ := ok.val j s h
    exact ⟨v, by rw [List.getElem?_set_ne ne]; exact ev, RS.shrink sub r⟩
  · obtain ⟨n1, e1⟩ := old j s h1
    obtain ⟨n2, e2⟩ := old l t h2
    rw [List.getElem?_set_ne n1] at h3
    rw [List.getElem?_set_ne n2] at h4
    exact ok.inj j l s t a e1 m1 e2 m2 h3 h4
  · have ne : i ≠ j := fun z => free_io hf (z ▸ h)
    exact ⟨⟨ds, by rw [List.getElem?_set_ne ne]; exact h⟩, List.getElem?_set_ne ne⟩
abbrev DXS := Str → List (Str × PyData) → DS
def tXS (Y : Pm) (h : Hd) (f : DXS) : TS := fun Dn σ H => ∃ env c fs, Ok Y.K Y.O0 env σ H ∧ XRep Y.mg Y.K (Al Y.O0 env σ) H c fs h.cls h.d ∧ σ[h.i]? = some (some (.ref h.a)) ∧ EndS Y env σ H Dn (f c fs env)
def XSt (X : Cx) (h : Hd) (st : Stmt) (f : DXS) : Prop := ∀ O0, PS X st (tXS (Cx.pm X WF O0) h f)
section
variable {X : Cx} {W : WX} {k : Nat} {e a b : Expr} {d da db : D} {pos p pos2 p' : Pos} {x n : Str} {h : Hd}
theorem xs_set {f : DX} {i : Nat} {p' : Pos} (hN : X.N.Nodup) (hi : X.N[i]? = some x) (hx : Loc X.env.scope x) (he : XE' X h e f) (hs : swapsWith e (some (.Name x p')) pos.line X.env = pure false := by rfl) (hf : X.fn x = true ∨ X.env.scope.names.lookup x = some .local := by first | exact .inl rfl | exact .inr rfl | assumption) :
    XSt X h (.Assign [.Name x p'] e pos) (fun c fs => dAsg (f c fs) (gNm i)) := fun O0 =>
  PS.imp (ps_set hN hi hx (he O0) hs hf) fun Dn σ H ⟨env, c, fs, ok, x, hi, q⟩ => ⟨env, c, fs, ok, x, hi, EndE.goS q fun v e1 H1 s1 q1 p rp => by
    obtain ⟨e2, h2, q2⟩ := EndS.of q1
    obtain ⟨hfr, rfl⟩ := setPv_free h2
    exact q2 _ _ (Stp.setPv s1.ok hfr rp)⟩
def clear (i : Nat) : OutS → OutS
  | .nx e => .nx (e.set i none)
  | .bk e => .bk (e.set i none)
  | .ct e => .ct (e.set i none)
  | .rt v e => .rt v e
  | _ => .stuck
def clearOk (i : Nat) : OutS → Bool
  | .nx e => free? e i
  | .bk e => free? e i
  | .ct e => free? e i
  | .rt _ _ => true
  | _ => false
def caught (i : Nat) (o : OutS) : OutS := if clearOk i o = true then clear i o else .stuck
def handle (catches : Str → Option Bool) (i : Nat) (su : DXS) (c : Str) (fs : List (Str × PyData)) (env : En) : OutS := match catches c with
  | some true => if free? env i = true then caught i (su c fs (env.set i none)) else .stuck
  | some false => .ex c fs env
  | none => .stuck
def dTry (catches : Str → Option Bool) (i : Nat) (body : DS) (su : DXS) : DS := fun env => match body env with
  | .ex c fs e1 => handle catches i su c fs e1
  | o => o
theorem caught_end {Y : Pm} {env : En} {σ : L2.St} {H : Hp} {Dn : Ends} {i : Nat} {o : OutS} (q : EndS Y env σ H Dn (caught i o)) :
    EndS ⟨Y.K, Y.mg, Y.O0, WF⟩ env σ H { nx := fun σ' H' => Dn.nx (σ'.set i none) H', rt := Dn.rt, bk := fun σ' H' => Dn.bk (σ'.set i none) H', ct := fun σ' H' => Dn.ct (σ'.set i none) H' } o := by
  unfold caught at q
  split at q
  · rename_i hc
    cases o with
    | nx e => exact fun σ' H' s => q _ _ (s.trans (Stp.drop s.ok hc))
    | bk e => exact fun σ' H' s => q _ _ (s.trans (Stp.drop s.ok hc))
    | ct e => exact fun σ' H' s => q _ _ (s.trans (Stp.drop s.ok hc))
    | rt v e => exact q
    | rl v e => cases hc
    | ex c fs e => cases hc
    | stuck => cases hc
  · exact q.elim
theorem ds_try {body : List Stmt} {st : Stmt} {i : Nat} {C : Addr} {catches : Str → Option Bool} {dbd : DS} {su : DXS} {np pos' : Pos} (G : Gd X W k) (hs : X.stack = X.env :: X.outer) (hf : X.env.frame = some X.env.locals) (hi : X.N[i]? = some n) (hln : X.env.kindOf n = some .local) (hC : X.mg x = some (.ref C))
    (hm : ∀ c b D, catches c = some b → X.mg c = some (.ref D) → PySem.W.exmOne X.K (.ref D) (.ref C) = some b)
    (hb : ∀ (W' : WX) (pn : List (Addr × Obj)) (xe : Value → Shared → Prop), Gd (Cx.tr X pn xe) W' k → DSs (Cx.tr X pn xe) W' body dbd)
    (hsu : ∀ (a : Addr) (oe : Obj) (cls : Value) (d : Option Addr) (pn : List (Addr × Obj)), Zc cls d oe → (∃ vs, oe.data = .fields vs) → XSt (Cx.suite X a ((a, oe) :: pn)) ⟨a, cls, d, i⟩ st su)
    (hgx : Gl X x := by rfl) (hdx : (x == ("__debug__" : Str)) = false := by decide) :
    DSt X W (.Try body [.ExceptHandler (some (.Name x np)) (some n) [st] pos'] [] [] pos) (dTry catches i dbd su) := fun O0 => by
  refine PS.imp (ps_try_as (tb := fun W' => tS ⟨X.K, X.mg, O0, W'⟩ dbd) (ts := fun a cls d => tXS ⟨X.K, X.mg, O0, WF⟩ ⟨a, cls, d, i⟩ su) hs hf G.nd hi hln ⟨hgx, hdx, .inl hC⟩ G.takes (fun W' pn xe tk ps => ?_) (fun a oe cls d pn hz hfv => pss_one (hsu a oe cls d pn hz hfv O0))) fun Dn σ H ⟨env, ok, q⟩ => ?_
  · exact hb W' pn xe ⟨G.calm, G.room, G.gd, tk, ps, G.nd⟩ O0
  · refine ⟨env, ok, ?_⟩
    unfold dTry at q
    cases hbo : dbd env with
    | nx e => rw [hbo] at q; exact q
    | rt v e => rw [hbo] at q; exact q
    | rl v e => rw [hbo] at q; exact q
    | bk e => rw [hbo] at q; exact q
    | ct e => rw [hbo] at q; exact q
    | stuck => rw [hbo] at q; exact q
    | ex c fs e1 =>
      rw [hbo] at q
      replace q : EndS (Cx.pm X W O0) env σ H Dn (handle catches i su c fs e1) := q
      unfold handle at q
      refine fun σ' H' cls d s xr => ?_
      obtain ⟨D, dd, ps, h1, h2, h3, h4, h5⟩ := xr
      split at q
      · rename_i hc
        split at q
        · rename_i hfr
          refine ⟨true, by rw [h2]; exact hm c true D hc h1, fun _ a na => ?_, fun z => by cases z⟩
          have st := Stp.drop (x := some (.ref a)) s.ok hfr
          have hlen : i < σ'.length := by
            rw [← s.ok.len]
            unfold free? at hfr
            cases he : e1[i]? with
            | none => rw [he] at hfr; cases hfr
            | some z => exact (List.getElem?_eq_some_iff.mp he).1
          have q' := EndS.shift (Y := Cx.pm X W O0) (s.trans st) q
          exact ⟨e1.set i none, c, fs, st.ok, XRep.step s.ok st ⟨D, dd, ps, h1, h2, h3, h4, h5⟩, List.getElem?_set_self hlen, caught_end q'⟩
        · exact q.elim
      · rename_i hc
        exact ⟨false, by rw [h2]; exact hm c false D hc h1, fun z => (by cases z), fun _ => q σ' H' cls d s ⟨D, dd, ps, h1, h2, h3, h4, h5⟩⟩
      · exact q.elim
end
end TL

namespace TL
open PySem PySem.Spec PyProof.Rows L2
variable [Tbl]

def arr {α : Type} (np nk : Nat) (perm : List Nat) (z : α) (us ws : List α) : List α := if us.length = np ∧ ws.length = nk then perm.map fun j => (us ++ ws).getD j z else []
omit [Tbl] in
theorem kb_mk {K : PySem.W.Frag} {fd : FuncData} {ps ks : List Str} {np : Nat} {perm : List Nat} (h0 : 0 < ps.length) (hl : perm.length = ps.length)
    (h : ∀ (us ws : List Value), us.length = np → ws.length = ks.length → bindArgs fd ⟨us, ks.zip ws⟩ = pure (ps.zip (perm.map fun j => (us ++ ws).getD j .none))) :
    L2.KBinds K fd ps ks (arr np ks.length perm .none) (arr np ks.length perm .non) where
  to := fun s us ws _ hlen => by
    unfold arr at hlen ⊢
    split at hlen
    · rename_i hc
      rw [if_pos hc]
      exact .of_eq (h us ws hc.1 hc.2)
    · simp at hlen
      omega
  rel := fun {vs us zs ws} r1 r2 => by
    unfold arr
    rw [r1.length, r2.length]
    split
    · have r := r1.append r2
      have key : ∀ j : Nat, L2.RelV ((vs ++ zs).getD j .non) ((us ++ ws).getD j .none) := fun j => by
        by_cases hj : j < (vs ++ zs).length
        · obtain ⟨u, h1, h2⟩ := r.get (List.getElem?_eq_getElem hj)
          rw [List.getD_eq_getElem?_getD, List.getD_eq_getElem?_getD, h1, List.getElem?_eq_getElem hj]
          exact h2
        · have hj2 : ¬ j < (us ++ ws).length := by
            rw [← r.length]
            exact hj
          rw [List.getD_eq_getElem?_getD, List.getD_eq_getElem?_getD, List.getElem?_eq_none (by omega), List.getElem?_eq_none (by omega)]
          rfl
      clear h hl
      induction perm with
      | nil => exact .nil
      | cons j r ih => exact .cons (key j) ih
    · exact .nil
structure CalK (P : Program) (w : World) (K : PySem.W.Frag) (mg : Str → Option Value) (base : Heap) (k : Nat) (x : Str) (n np : Nat) (ks : List Str) (perm : List Nat) (F : Fn) : Prop where
  ex : ∃ (f : Addr) (fd : FuncData) (ps : List Str), FnG P w K mg base (L2.CX P w) k f fd ps (spOf K mg n F) ∧ mg x = some (.ref f) ∧ PySem.W.keepIn K (.ref f) = true ∧ L2.KBinds K fd ps ks (arr np ks.length perm .none) (arr np ks.length perm .non)
theorem CalK.mono {P : Program} {w : World} {K : PySem.W.Frag} {mg : Str → Option Value} {base : Heap} {j k : Nat} {x : Str} {n np : Nat} {ks : List Str} {perm : List Nat} {F : Fn} (c : CalK P w K mg base j x n np ks perm F) (h : j ≤ k) : CalK P w K mg base k x n np ks perm F :=
  let ⟨f, fd, ps, h1, h2⟩ := c.ex
  ⟨f, fd, ps, h1.mono h, h2⟩
def DKs (X : Cx) (W : WX) (kws : List Keyword) (d : DA) : Prop := ∀ O0, PK X kws (tA (Cx.pm X W O0) d)
def perm' (perm : List Nat) (vs : List PyData) : List PyData := perm.map fun j => vs.getD j .none
def dCallP (F : Fn) (perm : List Nat) (ds : List D) : D := fun env => (dArgs ds env).bind fun (vs, e1) => Out.call (F ((perm' perm vs).map .pv)) fun _ => e1
omit [Tbl] in
theorem dArgs_app : ∀ (ds es : List D) (env : En), dArgs (ds ++ es) env = (dArgs ds env).bind fun (vs, e1) => (dArgs es e1).bind fun (ws, e2) => .ok (vs ++ ws, e2)
  | [], es, env => by
    show dArgs es env = (dArgs es env).bind _
    cases dArgs es env with
    | ok p => rfl
    | ex c fs e => rfl
    | stuck => rfl
  | d :: ds, es, env => by
    show dCons d (dArgs (ds ++ es)) env = (dCons d (dArgs ds) env).bind _
    unfold dCons
    cases h : d env with
    | ok p =>
      obtain ⟨v, e1⟩ := p
      simp only [Out.bind_ok]
      rw [dArgs_app ds es e1]
      cases h1 : dArgs ds e1 with
      | ok p =>
        obtain ⟨vs, e2⟩ := p
        simp only [Out.bind_ok]
        cases h2 : dArgs es e2 with
        | ok p => rfl
        | ex c fs e => rfl
        | stuck => rfl
      | ex c fs e => rfl
      | stuck => rfl
    | ex c fs e => rfl
    | stuck => rfl
omit [Tbl] in
theorem rps_getD {K : PySem.W.Frag} {O : Addr → Prop} {H : Hp} {ds : List PyData} {ps : List V} (r : Rps K O H ds ps) (j : Nat) : Rp K O H (ds.getD j .none) (ps.getD j .non) := by
  rw [List.getD_eq_getElem?_getD, List.getD_eq_getElem?_getD]
  cases h : ds[j]? with
  | none =>
    have hl := List.getElem?_eq_none_iff.mp h
    rw [r.length] at hl
    rw [List.getElem?_eq_none hl]
    exact .non
  | some d =>
    obtain ⟨v, h1, h2⟩ := r.get h
    rw [h1]
    exact h2
omit [Tbl] in
theorem rps_perm {K : PySem.W.Frag} {O : Addr → Prop} {H : Hp} {ds : List PyData} {ps : List V} (r : Rps K O H ds ps) : ∀ perm : List Nat, Rps K O H (perm' perm ds) (perm.map fun j => ps.getD j .non)
  | [] => .nil
  | j :: l => .cons (rps_getD r j) (rps_perm r l)
section
variable {X : Cx} {W : WX} {k j n np : Nat} {e : Expr} {es : List Expr} {ds kds : List D} {d : D} {pos p px kpos : Pos} {x y : Str} {F : Fn} {ks : List Str} {perm : List Nat} {kws : List Keyword} {nm : Option Str}
theorem dks_nil : DKs X W [] dNil := fun O0 => ⟨fun pos pins s σ H Q I ⟨env, ok, h⟩ => pk_nil.run pos pins s σ H Q I (h H (StpE.refl ok) [] .nil)⟩
theorem dks_cons {r : DA} (h : DE X W e d) (hr : DKs X W kws r) : DKs X W (⟨nm, e, kpos⟩ :: kws) (dCons d r) := fun O0 => ⟨fun pos pins s σ H Q I ⟨env, ok, q⟩ => (pk_cons (h O0) (hr O0)).run pos pins s σ H Q I
  ⟨env, ok, EndE.bind q fun v e1 H1 s1 q1 p rp => ⟨e1, s1.ok, EndE.bind q1 fun vs e2 H2 s2 q2 ps rps => q2 H2 (StpE.refl s2.ok) (p :: ps) (.cons (s2.step.rp s1.ok rp) rps)⟩⟩⟩
theorem callK_end {O0 : Addr → Prop} {env : En} {σ : L2.St} {H : Hp} {Q : VK} (hn : perm.length = n) (hp : ds.length = np) (hk : kds.length = ks.length) (ok : Ok X.K O0 env σ H)
    (q : EndE (Cx.pm X W O0) env σ H (fun v env' H' => ∀ p, Rp X.K (Al O0 env' σ) H' v p → Q p H') (dCallP F perm (ds ++ kds) env)) :
    tA (Cx.pm X W O0) (dArgs ds) σ H fun vs H1 => tA (Cx.pm X W O0) (dArgs kds) σ H1 fun zs H2 => spOf X.K X.mg n F (arr np ks.length perm .non vs zs) H2 Q (WE W σ) := by
  unfold dCallP at q
  rw [dArgs_app] at q
  refine ⟨env, ok, ?_⟩
  cases hd : dArgs ds env with
  | ex c fs e1 => rw [hd] at q; exact q
  | stuck => rw [hd] at q; exact q
  | ok pr =>
    obtain ⟨vs, e1⟩ := pr
    rw [hd] at q
    intro H1 s1 ps rps
    have hv := dArgs_len _ _ _ _ hd
    simp only [Out.bind_ok] at q
    have q1 := EndE.shift s1 q
    refine ⟨e1, s1.ok, ?_⟩
    cases hd2 : dArgs kds e1 with
    | ex c fs e2 => rw [hd2] at q1; exact q1
    | stuck => rw [hd2] at q1; exact q1
    | ok pr =>
      obtain ⟨ws, e2⟩ := pr
      rw [hd2] at q1
      intro H2 s2 zs rzs
      have hw := dArgs_len _ _ _ _ hd2
      simp only [Out.bind_ok] at q1
      have q2 := EndE.shift s2 q1
      have rall := (s2.step.rps s1.ok rps).append rzs
      have ha : arr np ks.length perm V.non ps zs = perm.map fun j => (ps ++ zs).getD j .non := by
        unfold arr
        rw [if_pos ⟨by rw [← rps.length]; omega, by rw [← rzs.length]; omega⟩]
      rw [ha]
      have rr := rps_perm rall perm
      refine ⟨Al O0 e2 σ, (perm' perm (vs ++ ws)).map .pv, by simp [perm', hn], by simp [Sl.arg], ok_pure s2.ok rr, ?_⟩
      cases hF : F ((perm' perm (vs ++ ws)).map .pv) with
      | val v as' => rw [hF] at q2; exact fun H' p st r => q2 H' (pure_step s2.ok st) p (Rp.goes (Goes.shrink fun a z => .inl z) _ _ r)
      | fresh ds' as' => rw [hF] at q2; exact fun H' a qs st fr => q2 H' (pure_step s2.ok st) _ (by
          have := fr.rp (fun z => by obtain ⟨xs, e⟩ := s2.ok.al z; rw [fr.new] at e; cases e)
          exact Rp.goes (Goes.shrink fun a z => .inl z) _ _ this)
      | ex c fs as' =>
        rw [hF] at q2
        refine fun H' cls d st xr => q2 H' cls d (pure_step s2.ok st) ?_
        obtain ⟨C, dd, qs, h1, h2, h3, h4, h5⟩ := xr
        exact ⟨C, dd, qs, h1, h2, h3, h4, Paired.mapP h5 fun f p z => ⟨z.1, Rp.goes (Goes.shrink fun a z => .inl z) _ _ z.2⟩⟩
      | stuck => rw [hF] at q2; exact q2.elim
theorem de_callK0 (G : Gd X W k) (c : CalK X.prog X.w X.K X.mg X.base j x n 0 ks perm F) (hj : j ≤ k) (hkw : DKs X W kws (dArgs kds)) (hn : perm.length = n := by rfl) (hkl : kds.length = ks.length := by rfl)
    (hall : (backToKw pos (keywordEach kws X.env)).all (·.1.isSome) = true := by rfl) (hks : (backToKw pos (keywordEach kws X.env)).filterMap (·.1) = ks := by rfl) (hg : Gl X x := by rfl)
    (hdb : (x == ("__debug__" : Str)) = false := by decide) (hpl : ((backTo pos (starEach [] X.env)).any (·.1) || (backToKw pos (keywordEach kws X.env)).any (·.1.isNone)) = false := by rfl) :
    DE X W (.Call (.Name x p) [] kws pos) (dCallP F perm kds) := fun O0 => by
  obtain ⟨f, fd, ps, hf, hm, hk, hb⟩ := c.ex
  refine ⟨fun pins s σ H Q I ⟨env, ok, q⟩ => ?_⟩
  obtain ⟨e0, ok0, hq⟩ := callK_end (ds := []) (np := 0) (ks := ks) (kds := kds) hn rfl hkl ok q
  have hq := hq H (StpE.refl ok0) [] .nil
  refine wpAny_Call_Name_kw (ld_glob I hg hm ?_ hdb)
  refine PySem.W.callWith_KW0 (h₀ := X.base) I.ok.mod.kin hk hall (thn ((hkw O0).run pos pins s σ H _ I hq) fun ws s2 ⟨zs, H2, I2, rz, q2⟩ => ⟨I2.kIn, ?_⟩) hpl
  rw [hks]
  have rel := hb.rel (vs := []) (us := []) .nil rz
  have hl : (arr 0 ks.length perm Value.none [] ws).length = ps.length := by rw [← rel.length]; exact hf.len _ _ _ _ q2
  refine wpAny_call (codeAny_mono ((hf.mono hj).go X.A X.stack s2 H2 ⟨[], ks.zip ws⟩ _ _ Q (WE W σ) G.room G.gd I2.env0 (hb.to s2 [] ws I2.kIn hl) rel q2) fun r s' hq' => ?_)
  cases r with
  | error er => exact passAt G.takes σ pins H2 s2 er s' I2 hq'
  | ok fl =>
    cases fl with
    | ret u => exact I2.after hq'
    | next => exact False.elim hq'
    | brk => exact False.elim hq'
    | cont => exact False.elim hq'
end

def spLaw (K : PySem.W.Frag) : Sp := fun vs H Q _ => ∃ (a : Addr) (ns : List Int), vs = [.ref a] ∧ LamX.Tabs Tbl.T H ∧ SqL K H a (ns.map V.int) ∧ ns.length ≤ 63 ∧ ∀ H', Q (.bl true) H'
theorem law_end {P : Program} {w : World} {K : PySem.W.Frag} {mg : Str → Option Value} {base : Heap} {k : Nat} {f : Addr} {fd : FuncData} {ps : List Str} {F : Fn} (h : FnG P w K mg base (L2.CX P w) k f fd ps (spOf K mg 1 F))
    (hF : ∀ ns : List Int, ns.length ≤ 63 → ∃ as', F [.sc ns] = .val (.bool true) as') : FnG P w K mg base (L2.CX P w) k f fd ps (spLaw K) :=
  h.imp fun vs H Q E ⟨a, ns, hv, ho, hs, hl, q⟩ => by
    subst hv
    obtain ⟨as', e⟩ := hF ns hl
    refine ⟨fun _ => False, [.sc ns], rfl, rfl, ⟨rfl, fun i s h => ?_, fun i j s t b h1 h2 h3 h4 h5 h6 => ?_, fun _ h => h.elim, fun _ _ h => h, ho⟩, ?_⟩
    · have h' := slots_get.mp h
      cases i with
      | zero =>
        have : s = .sc ns := by simpa using h'.symm
        subst this
        refine ⟨.ref a, vals_get.mpr (by simp), a, rfl, ?_⟩
        rcases hs with (h | h) | h
        · refine .inr ⟨h, fun z => z.elim id fun z => ?_⟩
          obtain ⟨j, t, h1, h2, _⟩ := z
          have h1' := slots_get.mp h1
          cases j with
          | zero =>
            have : t = .sc ns := by simpa using h1'.symm
            subst this
            cases h2
          | succ j => simp at h1'
        · exact .inl (.inl h)
        · exact .inl (.inr h)
      | succ i => simp at h'
    · have h' := slots_get.mp h1
      cases i with
      | zero =>
        have : s = .sc ns := by simpa using h'.symm
        subst this
        cases h2
      | succ i => simp at h'
    · rw [e]
      exact fun H' p st r => by cases r; exact q H'
omit [Tbl] in
theorem cx_end {P : Program} {w : World} {H : Hp} {s : Shared} {e : Value} {s' : Shared} (h : L2.CX P w [] H s (fun _ _ _ => False) e s') : False := by
  obtain ⟨_, _, _, _, _, _, _, _, _, _, _, _, z⟩ := h
  exact z
end TL

namespace TL
open PySem PySem.Spec PyProof.Rows L2
variable [Tbl]
section
variable {X : Cx} {W : WX} {k : Nat} {e a b c o : Expr} {d da db dc : D} {pos p : Pos} {x y z : Str}
def dPar3 (i j l : Nat) (a b c : D) : DS := fun env => (dArgs [a, b, c] env).goS fun vs e1 => Out.ofS (match vs with
  | [u, v, w] => (setPv e1 i u).bind fun e2 => (setPv e2 j v).bind fun e3 => setPv e3 l w
  | _ => none) fun e2 => .nx e2
def pyAddI := gI0 fun i j => .int (i + j)
end
end TL

namespace TL
open PySem PySem.Spec PyProof.Rows L2
variable [Tbl]
section
variable {env e1 : En} {a b c d : D} {ds : List D} {i j l : Nat} {v w : PyData} {x y : DS} {t u : DT} {F : Fn}
omit [Tbl] in
@[simp] theorem ap_C : dC v env = .ok (v, env) := rfl
omit [Tbl] in
@[simp] theorem ap_Op {g : PyData → PyData → Option PyData} : dOp g a b env = (a env).bind fun p => (b p.2).bind fun q => (Out.of (g p.1 q.1)).bind fun u => .ok (u, q.2) := rfl
omit [Tbl] in
@[simp] theorem ap_Bool : dBool d env = (d env).bind fun p => match p.1 with | .bool b => .ok (b, p.2) | _ => .stuck := rfl
omit [Tbl] in
@[simp] theorem ap_Chain {g g' : PyData → PyData → Option PyData} : dChain g g' a b c env = (a env).bind fun p => (b p.2).bind fun q => (Out.of (g p.1 q.1)).bind fun z => match z with
  | .bool true => (c q.2).bind fun r => (Out.of (g' q.1 r.1)).bind fun s => .ok (s, r.2)
  | .bool false => .ok (.bool false, q.2)
  | _ => .stuck := rfl
omit [Tbl] in
@[simp] theorem ap_Truth : dTruth d env = (d env).bind fun p => (Out.of (truth p.1)).bind fun b => .ok (b, p.2) := rfl
omit [Tbl] in
@[simp] theorem ap_And : dAnd t u env = (t env).bind fun p => if p.1 = true then u p.2 else .ok (false, p.2) := rfl
omit [Tbl] in
@[simp] theorem ap_Or : dOr t u env = (t env).bind fun p => if p.1 = true then .ok (true, p.2) else u p.2 := rfl
omit [Tbl] in
@[simp] theorem ap_Not : dNot t env = (t env).bind fun p => .ok (!p.1, p.2) := rfl
omit [Tbl] in
@[simp] theorem ap_AndV : dAndV a b env = (a env).bind fun p => (Out.of (truth p.1)).bind fun t => if t = true then b p.2 else .ok (p.1, p.2) := rfl
omit [Tbl] in
@[simp] theorem ap_OrV : dOrV a b env = (a env).bind fun p => (Out.of (truth p.1)).bind fun t => if t = true then .ok (p.1, p.2) else b p.2 := rfl
omit [Tbl] in
@[simp] theorem ap_NotV : dNotV a env = (a env).bind fun p => (Out.of (truth p.1)).bind fun t => .ok (.bool (!t), p.2) := rfl
omit [Tbl] in
@[simp] theorem ap_If : dIf t a b env = (t env).bind fun p => if p.1 = true then a p.2 else b p.2 := rfl
omit [Tbl] in
@[simp] theorem ap_Neg : dNeg a env = (a env).bind fun p => match p.1 with | .int i => .ok (.int (-i), p.2) | _ => .stuck := rfl
omit [Tbl] in
@[simp] theorem ap_args_nil : dArgs [] env = .ok ([], env) := rfl
omit [Tbl] in
@[simp] theorem ap_args_cons : dArgs (d :: ds) env = (d env).bind fun p => (dArgs ds p.2).bind fun q => .ok (p.1 :: q.1, q.2) := rfl
omit [Tbl] in
@[simp] theorem ap_Tup : dTup ds env = (dArgs ds env).bind fun p => .ok (.tuple p.1, p.2) := rfl
omit [Tbl] in
@[simp] theorem ap_Lst : dLst ds env = (dArgs ds env).bind fun p => .ok (.list p.1, p.2) := rfl
omit [Tbl] in
@[simp] theorem ap_fLst : fLst ds env = dArgs ds env := rfl
omit [Tbl] in
@[simp] theorem ap_CB {g : List PyData → Option PyData} : dCB g ds env = (dArgs ds env).bind fun p => (Out.of (g p.1)).bind fun u => .ok (u, p.2) := rfl
omit [Tbl] in
@[simp] theorem ap_IsA {T : String} : dIsA T d env = (d env).bind fun p => (Out.of (isA T p.1)).bind fun b => .ok (.bool b, p.2) := rfl
omit [Tbl] in
@[simp] theorem ap_IsAny {T : List String} : dIsAny T d env = (d env).bind fun p => (Out.of (kitL T (tyS p.1))).bind fun b => .ok (.bool b, p.2) := rfl
omit [Tbl] in
@[simp] theorem ap_LenO : dLenO i env = (Out.of (seqAt env i)).bind fun ds => .ok (.int ds.length, env) := rfl
omit [Tbl] in
@[simp] theorem ap_IxO : dIxO i b env = (Out.of (seqAt env i)).bind fun _ => (b env).bind fun q => (Out.of (ixO (seqAt q.2 i) q.1)).bind fun u => .ok (u, q.2) := rfl
omit [Tbl] in
@[simp] theorem ap_Call : dCall F ds env = (dArgs ds env).bind fun p => Out.call (F (p.1.map .pv)) fun _ => p.2 := rfl
omit [Tbl] in
@[simp] theorem ap_fCall : fCall F ds env = (dArgs ds env).bind fun p => Out.callF (F (p.1.map .pv)) fun _ => p.2 := rfl
omit [Tbl] in
@[simp] theorem ap_CallP {perm : List Nat} : dCallP F perm ds env = (dArgs ds env).bind fun p => Out.call (F ((perm' perm p.1).map .pv)) fun _ => p.2 := rfl
omit [Tbl] in
@[simp] theorem ap_CallS : dCallS F i ds env = (Out.of (refAt env i)).bind fun _ => (dArgs ds env).bind fun p => (Out.of (refAt p.2 i)).bind fun s => Out.call (F (s :: p.1.map .pv)) fun as => putRef p.2 i s as := rfl
omit [Tbl] in
@[simp] theorem ap_fCallS : fCallS F i ds env = (Out.of (refAt env i)).bind fun _ => (dArgs ds env).bind fun p => (Out.of (refAt p.2 i)).bind fun s => Out.callF (F (s :: p.1.map .pv)) fun as => putRef p.2 i s as := rfl
omit [Tbl] in
@[simp] theorem call_val {as : List Sl} {f : List Sl → En} : Out.call (.val v as) f = .ok (v, f as) := rfl
omit [Tbl] in
@[simp] theorem call_fresh {as : List Sl} {vs : List PyData} {f : List Sl → En} : Out.call (.fresh vs as) f = .ok (.list vs, f as) := rfl
omit [Tbl] in
@[simp] theorem call_ex {as : List Sl} {n : Str} {fs : List (Str × PyData)} {f : List Sl → En} : Out.call (.ex n fs as) f = .ex n fs (f as) := rfl
omit [Tbl] in
@[simp] theorem callF_fresh {as : List Sl} {vs : List PyData} {f : List Sl → En} : Out.callF (.fresh vs as) f = .ok (vs, f as) := rfl
omit [Tbl] in
@[simp] theorem ap_Seq : dSeq x y env = (x env).then y := rfl
omit [Tbl] in
@[simp] theorem ap_Pass : dPass env = .nx env := rfl
omit [Tbl] in
@[simp] theorem ap_Ret : dRet d env = (d env).goS fun v e1 => .rt v e1 := rfl
omit [Tbl] in
@[simp] theorem ap_RetN : dRetN env = .rt .none env := rfl
omit [Tbl] in
@[simp] theorem ap_RetF {f : DL} : dRetF f env = (f env).goS fun v e1 => .rl v e1 := rfl
omit [Tbl] in
@[simp] theorem ap_Expr : dExpr d env = (d env).goS fun _ e1 => .nx e1 := rfl
omit [Tbl] in
@[simp] theorem ap_IfS : dIfS t x y env = (t env).goS fun v e1 => if v = true then x e1 else y e1 := rfl
omit [Tbl] in
@[simp] theorem ap_Asg {g : DG} : dAsg d g env = (d env).goS fun v e1 => Out.ofS (g v e1) fun e2 => .nx e2 := rfl
omit [Tbl] in
@[simp] theorem ap_AsgO {f : DL} : dAsgO i f env = (f env).goS fun ds e1 => Out.ofS (setOw e1 i ds) fun e2 => .nx e2 := rfl
omit [Tbl] in
@[simp] theorem ap_Nm : gNm i v env = setPv env i v := rfl
omit [Tbl] in
@[simp] theorem ap_Par : dPar i j a b env = (dArgs [a, b] env).goS fun vs e1 => Out.ofS (match vs with
  | [v, w] => (setPv e1 i v).bind fun e2 => setPv e2 j w
  | _ => none) fun e2 => .nx e2 := rfl
omit [Tbl] in
@[simp] theorem ap_Par3 : dPar3 i j l a b c env = (dArgs [a, b, c] env).goS fun vs e1 => Out.ofS (match vs with
  | [u, v, w] => (setPv e1 i u).bind fun e2 => (setPv e2 j v).bind fun e3 => setPv e3 l w
  | _ => none) fun e2 => .nx e2 := rfl
omit [Tbl] in
@[simp] theorem ap_SetIx : dSetIx i b d env = (d env).goS fun v e1 => Out.ofS (ownAt e1 i) fun _ => (b e1).goS fun w e2 => Out.ofS (ixW (ownAt e2 i) w v) fun ds => .nx (putOw e2 i ds) := rfl
omit [Tbl] in
@[simp] theorem ap_Raise {n at' : Str} : dRaise n at' d env = (d env).goS fun v e1 => .ex n [(at', v)] e1 := rfl
omit [Tbl] in
@[simp] theorem ap_gTp {n : Nat} {r : List PyData → En → Option En} {vs : List PyData} : gTp n r (.tuple vs) env = if vs.length = n then r vs env else none := rfl
omit [Tbl] in
@[simp] theorem ap_gsC {g : DG} {r : List PyData → En → Option En} {vs : List PyData} : gsC g r (v :: vs) env = (g v env).bind fun e1 => r vs e1 := rfl
omit [Tbl] in
@[simp] theorem ap_gs0 : gs0 [] env = some env := rfl
omit [Tbl] in
@[simp] theorem ap_For {f : DL} {g : DG} : dFor f g x env = (f env).goS fun vs e1 => loopF g x vs e1 := rfl
omit [Tbl] in
@[simp] theorem ap_ItA {f : List PyData → Option (List PyData)} : dItA f ds env = (dArgs ds env).bind fun p => (Out.of (f p.1)).bind fun vs => .ok (vs, p.2) := rfl
omit [Tbl] in
@[simp] theorem ap_It {f : PyData → Option (List PyData)} : dIt f d env = (d env).bind fun p => (Out.of (f p.1)).bind fun vs => .ok (vs, p.2) := rfl
omit [Tbl] in
@[simp] theorem loop_nil {g : DG} : loopF g x [] env = .nx env := rfl
def Fr : Option Sl → Bool
  | none => true
  | some (.pv _) => true
  | some (.ow _) => true
  | _ => false
omit [Tbl] in
@[simp] theorem fr_none : Fr none = true := rfl
omit [Tbl] in
@[simp] theorem fr_pv : Fr (some (.pv v)) = true := rfl
omit [Tbl] in
@[simp] theorem fr_ow {vs : List PyData} : Fr (some (.ow vs)) = true := rfl
omit [Tbl] in
theorem free_fr {x : Option Sl} (h : env[i]? = some x) : free? env i = Fr x := by
  unfold free?
  rw [h]
  cases x with
  | none => rfl
  | some s => cases s <;> rfl
omit [Tbl] in
@[simp] theorem free_0 {x : Option Sl} {r : En} : free? (x :: r) 0 = Fr x := free_fr rfl
omit [Tbl] in
@[simp] theorem free_s {x : Option Sl} {r : En} {n : Nat} : free? (x :: r) (n + 1) = free? r n := rfl
omit [Tbl] in
theorem setPv_eq : setPv env i v = if free? env i = true then some (env.set i (some (.pv v))) else none := rfl
omit [Tbl] in
theorem setOw_eq {vs : List PyData} : setOw env i vs = if free? env i = true then some (env.set i (some (.ow vs))) else none := rfl
omit [Tbl] in
@[simp] theorem setPv_0 {x : Option Sl} {r : En} : setPv (x :: r) 0 v = if Fr x = true then some (some (.pv v) :: r) else none := by simp [setPv_eq]
omit [Tbl] in
@[simp] theorem setPv_s {x : Option Sl} {r : En} {n : Nat} : setPv (x :: r) (n + 1) v = (setPv r n v).map (x :: ·) := by
  simp only [setPv_eq, free_s, List.set_cons_succ]
  by_cases h : free? r n = true <;> simp [h]
omit [Tbl] in
@[simp] theorem setOw_0 {x : Option Sl} {r : En} {vs : List PyData} : setOw (x :: r) 0 vs = if Fr x = true then some (some (.ow vs) :: r) else none := by simp [setOw_eq]
omit [Tbl] in
@[simp] theorem setOw_s {x : Option Sl} {r : En} {n : Nat} {vs : List PyData} : setOw (x :: r) (n + 1) vs = (setOw r n vs).map (x :: ·) := by
  simp only [setOw_eq, free_s, List.set_cons_succ]
  by_cases h : free? r n = true <;> simp [h]
omit [Tbl] in
@[simp] theorem var_pv0 {r : En} : dVar 0 (some (.pv v) :: r) = .ok (v, some (.pv v) :: r) := rfl
omit [Tbl] in
@[simp] theorem var_ow0 {r : En} {vs : List PyData} : dVar 0 (some (.ow vs) :: r) = .ok (.list vs, some (.pv (.list vs)) :: r) := rfl
def Out.up (x : Option Sl) : Out (PyData × En) → Out (PyData × En)
  | .ok (v, e) => .ok (v, x :: e)
  | .ex c fs e => .ex c fs (x :: e)
  | .stuck => .stuck
omit [Tbl] in
@[simp] theorem up_ok {x : Option Sl} : Out.up x (.ok (v, env)) = .ok (v, x :: env) := rfl
omit [Tbl] in
@[simp] theorem up_stuck {x : Option Sl} : Out.up x .stuck = .stuck := rfl
omit [Tbl] in
@[simp] theorem var_s {x : Option Sl} {r : En} {n : Nat} : dVar (n + 1) (x :: r) = Out.up x (dVar n r) := by
  unfold dVar
  simp only [List.getElem?_cons_succ, List.set_cons_succ]
  cases h : r[n]? with
  | none => rfl
  | some y =>
    cases y with
    | none => rfl
    | some s => cases s <;> rfl
omit [Tbl] in
@[simp] theorem seq_0 {s : Sl} {r : En} : seqAt (some s :: r) 0 = s.items := rfl
omit [Tbl] in
@[simp] theorem seq_s {x : Option Sl} {r : En} {n : Nat} : seqAt (x :: r) (n + 1) = seqAt r n := rfl
omit [Tbl] in
@[simp] theorem own_ow0 {r : En} {vs : List PyData} : ownAt (some (.ow vs) :: r) 0 = some vs := rfl
omit [Tbl] in
@[simp] theorem own_io0 {r : En} {vs : List PyData} : ownAt (some (.io vs) :: r) 0 = some vs := rfl
omit [Tbl] in
@[simp] theorem own_s {x : Option Sl} {r : En} {n : Nat} : ownAt (x :: r) (n + 1) = ownAt r n := rfl
omit [Tbl] in
@[simp] theorem put_ow0 {r : En} {vs ws : List PyData} : putOw (some (.ow vs) :: r) 0 ws = some (.ow ws) :: r := rfl
omit [Tbl] in
@[simp] theorem put_io0 {r : En} {vs ws : List PyData} : putOw (some (.io vs) :: r) 0 ws = some (.io ws) :: r := rfl
omit [Tbl] in
@[simp] theorem put_s {x : Option Sl} {r : En} {n : Nat} {ws : List PyData} : putOw (x :: r) (n + 1) ws = x :: putOw r n ws := by
  unfold putOw
  simp only [List.getElem?_cons_succ, List.set_cons_succ]
  cases h : r[n]? with
  | none => rfl
  | some y => cases y <;> rfl
omit [Tbl] in
@[simp] theorem ref_ow0 {r : En} {vs : List PyData} : refAt (some (.ow vs) :: r) 0 = some (.io vs) := rfl
omit [Tbl] in
@[simp] theorem ref_io0 {r : En} {vs : List PyData} : refAt (some (.io vs) :: r) 0 = some (.io vs) := rfl
omit [Tbl] in
@[simp] theorem ref_sc0 {r : En} {ns : List Int} : refAt (some (.sc ns) :: r) 0 = some (.sc ns) := rfl
omit [Tbl] in
@[simp] theorem ref_s {x : Option Sl} {r : En} {n : Nat} : refAt (x :: r) (n + 1) = refAt r n := rfl
omit [Tbl] in
@[simp] theorem putRef_io {vs ws : List PyData} {as : List Sl} : putRef env i (.io vs) (.io ws :: as) = putOw env i ws := rfl
omit [Tbl] in
@[simp] theorem putRef_sc {ns : List Int} {as : List Sl} : putRef env i (.sc ns) as = env := rfl
omit [Tbl] in
@[simp] theorem items_ow {vs : List PyData} : (Sl.ow vs).items = some vs := rfl
omit [Tbl] in
@[simp] theorem items_io {vs : List PyData} : (Sl.io vs).items = some vs := rfl
omit [Tbl] in
@[simp] theorem items_sc {ns : List Int} : (Sl.sc ns).items = some (ns.map .int) := rfl
omit [Tbl] in
@[simp] theorem add_int {m n : Int} : pyAdd (.int m) (.int n) = some (.int (m + n)) := rfl
omit [Tbl] in
@[simp] theorem sub_int {m n : Int} : pySub (.int m) (.int n) = some (.int (m - n)) := rfl
omit [Tbl] in
theorem mul_int {m n : Int} (h : MulOk m n) : pyMul (.int m) (.int n) = some (.int (m * n)) := if_pos h
omit [Tbl] in
theorem div_int {m n : Int} (h : DivOk m n) : pyDiv (.int m) (.int n) = some (.int (m.fdiv n)) := if_pos h
omit [Tbl] in
theorem mod_int {m n : Int} (h : n ≠ 0) : pyMod (.int m) (.int n) = some (.int (m.fmod n)) := if_pos h
omit [Tbl] in
theorem mod_pos {m n : Int} (h : 0 < n) : pyMod (.int m) (.int n) = some (.int (m % n)) := by
  rw [mod_int (by omega), Int.fmod_eq_emod_of_nonneg m (by omega)]
omit [Tbl] in
theorem div_pos {m n : Int} (h : 0 < n) (hl : n.natAbs.log2 < 9000) : pyDiv (.int m) (.int n) = some (.int (m / n)) := by
  rw [div_int ⟨by omega, hl⟩, Int.fdiv_eq_ediv_of_nonneg m (by omega)]
omit [Tbl] in
theorem pow_int {m n : Int} (h : PowOk m n) : pyPow (.int m) (.int n) = some (.int (m ^ n.toNat)) := if_pos h
omit [Tbl] in
@[simp] theorem lt_int {m n : Int} : pyLt (.int m) (.int n) = some (.bool (decide (m < n))) := rfl
omit [Tbl] in
@[simp] theorem le_int {m n : Int} : pyLe (.int m) (.int n) = some (.bool (decide (m ≤ n))) := rfl
omit [Tbl] in
@[simp] theorem gt_int {m n : Int} : pyGt (.int m) (.int n) = some (.bool (decide (n < m))) := rfl
omit [Tbl] in
@[simp] theorem ge_int {m n : Int} : pyGe (.int m) (.int n) = some (.bool (decide (n ≤ m))) := rfl
omit [Tbl] in
@[simp] theorem eq_int {m n : Int} : pyEq (.int m) (.int n) = some (.bool (m == n)) := rfl
omit [Tbl] in
@[simp] theorem ne_int {m n : Int} : pyNe (.int m) (.int n) = some (.bool (!(m == n))) := rfl
omit [Tbl] in
@[simp] theorem int_int {n : Int} : pyInt [.int n] = some (.int n) := rfl
omit [Tbl] in
@[simp] theorem int_bool {b : Bool} : pyInt [.bool b] = some (.int (if b then 1 else 0)) := rfl
omit [Tbl] in
@[simp] theorem max2_int {m n : Int} : pyMax2 [.int m, .int n] = some (.int (if n > m then n else m)) := rfl
omit [Tbl] in
@[simp] theorem min2_int {m n : Int} : pyMin2 [.int m, .int n] = some (.int (if n < m then n else m)) := rfl
omit [Tbl] in
@[simp] theorem gcd_int {m n : Int} : pyGcd [.int m, .int n] = some (.int (Nat.gcd m.natAbs n.natAbs : Nat)) := rfl
omit [Tbl] in
@[simp] theorem len_tup {vs : List PyData} : pyLen [.tuple vs] = some (.int vs.length) := rfl
omit [Tbl] in
@[simp] theorem len_lst {vs : List PyData} : pyLen [.list vs] = some (.int vs.length) := rfl
omit [Tbl] in
@[simp] theorem tr_bool {b : Bool} : truth (.bool b) = some b := rfl
omit [Tbl] in
@[simp] theorem is_bool {b c : Bool} : pyIs (.bool b) (.bool c) = some (.bool (decide (b = c))) := rfl
omit [Tbl] in
@[simp] theorem isnot_bool {b c : Bool} : pyIsNot (.bool b) (.bool c) = some (.bool (!decide (b = c))) := rfl
omit [Tbl] in
@[simp] theorem ix_t0 {r : List PyData} : pyIx (.tuple (v :: r)) (.int 0) = some v := by
  show atI (v :: r) ((0 : Nat) : Int) = some v
  exact atI_nat rfl
omit [Tbl] in
@[simp] theorem ix_t1 {r : List PyData} : pyIx (.tuple (v :: w :: r)) (.int 1) = some w := by
  show atI (v :: w :: r) ((1 : Nat) : Int) = some w
  exact atI_nat rfl
omit [Tbl] in
@[simp] theorem ixO_0 {r : List PyData} : ixO (some (v :: r)) (.int 0) = some v := ix_t0
omit [Tbl] in
@[simp] theorem ixO_1 {r : List PyData} : ixO (some (v :: w :: r)) (.int 1) = some w := ix_t1
omit [Tbl] in
@[simp] theorem ixW_0 {r : List PyData} : ixW (some (v :: r)) (.int 0) w = some (w :: r) := by
  unfold ixW ixN
  simp
omit [Tbl] in
@[simp] theorem ixW_1 {r : List PyData} {z : PyData} : ixW (some (v :: w :: r)) (.int 1) z = some (v :: z :: r) := by
  unfold ixW ixN
  simp
  omega
end
end TL

namespace TL
open PySem PySem.Spec PyProof.Rows L2
variable [Tbl]
structure Src where
  a : Int
  b : Int
  ha : 0 ≤ a
  hb : 0 ≤ b ∧ b < 2147483647
def Src.l (s : Src) : List PyData := [.int s.a, .int s.b]
def Src.draw (s : Src) (t : Int) : Int × Src :=
  if h : 0 < t then
    if 0 < s.a then (s.a % t, ⟨s.a / t, s.b, Int.ediv_nonneg s.ha (by omega), s.hb⟩)
    else
      let b' := (s.b * 39373 + 7) % 2147483647
      (b' * b' % 2147483629 / 32 % t, ⟨s.a, b', s.ha, Int.emod_nonneg _ (by decide), Int.emod_lt_of_pos _ (by decide)⟩)
  else (0, s)
omit [Tbl] in
theorem Src.draw_nn (s : Src) {t : Int} (h : 0 < t) : 0 ≤ (s.draw t).1 := by
  unfold Src.draw
  rw [dif_pos h]
  split
  · exact Int.emod_nonneg _ (by omega)
  · exact Int.emod_nonneg _ (by omega)
omit [Tbl] in
theorem Src.draw_lt (s : Src) {t : Int} (h : 0 < t) : (s.draw t).1 < t := by
  unfold Src.draw
  rw [dif_pos h]
  split
  · exact Int.emod_lt_of_pos _ h
  · exact Int.emod_lt_of_pos _ h
def Sz (k : Nat) (n : Int) : Prop := n.natAbs < 2 ^ k
omit [Tbl] in
theorem Sz.mono {j k : Nat} {n : Int} (h : Sz j n) (hk : j ≤ k) : Sz k n := Nat.lt_of_lt_of_le h (Nat.pow_le_pow_right (by decide) hk)
omit [Tbl] in
theorem log2_lt {m k : Nat} (h : m < 2 ^ k) (hk : 0 < k) : m.log2 < k := by
  by_cases hm : m = 0
  · subst hm
    simpa using hk
  · exact (Nat.log2_lt hm).mpr h
omit [Tbl] in
theorem Sz.log {k : Nat} {n : Int} (h : Sz k n) (hk : 0 < k) : n.natAbs.log2 < k := log2_lt h hk
omit [Tbl] in
theorem Sz.mulOk {j k : Nat} {m n : Int} (h1 : Sz j m) (h2 : Sz k n) (hj : 0 < j) (hk : 0 < k) (h : j + k ≤ 1000000) : MulOk m n := .inr (by
  have := h1.log hj
  have := h2.log hk
  omega)
omit [Tbl] in
theorem Sz.mul {j k : Nat} {m n : Int} (h1 : Sz j m) (h2 : Sz k n) : Sz (j + k) (m * n) := by
  unfold Sz at *
  rw [Int.natAbs_mul, Nat.pow_add]
  exact Nat.mul_lt_mul'' h1 h2
omit [Tbl] in
theorem Sz.sub {k : Nat} {m n : Int} (h1 : Sz k m) (h2 : Sz k n) : Sz (k + 1) (m - n) := by
  unfold Sz at *
  have := Int.natAbs_sub_le m n
  rw [Nat.pow_succ]
  omega
omit [Tbl] in
theorem Sz.of {k : Nat} {n : Int} (h1 : -(2 ^ k : Int) < n) (h2 : n < 2 ^ k) : Sz k n := by
  unfold Sz
  have e : ((2 ^ k : Nat) : Int) = 2 ^ k := by simp
  omega
omit [Tbl] in
theorem MulOk.left {m n : Int} (h : -(2 ^ 64) < m ∧ m < 2 ^ 64) : MulOk m n := .inl (.inl h)
omit [Tbl] in
theorem MulOk.right {m n : Int} (h : -(2 ^ 64) < n ∧ n < 2 ^ 64) : MulOk m n := .inl (.inr h)

def bTake : DS :=
    (dSeq (dIfS (dBool (dOp pyGt (dIxO 0 (dC (.int 0))) (dC (.int 0)))) (dSeq (dAsg (dOp pyMod (dCB pyInt [(dIxO 0 (dC (.int 0)))]) (dVar 1)) (gNm 2))
    (dSeq (dSetIx 0 (dC (.int 0)) (dOp pyDiv (dIxO 0 (dC (.int 0))) (dVar 1)))
    (dRet (dVar 2)))) dPass)
    (dSeq (dSetIx 0 (dC (.int 1)) (dOp pyMod (dCB pyInt [(dOp pyAdd (dOp pyMul (dIxO 0 (dC (.int 1))) (dC (.int 39373))) (dC (.int 7)))]) (dC (.int 2147483647))))
    (dRet (dOp pyMod (dCB pyInt [(dOp pyDiv (dOp pyMod (dCB pyInt [(dOp pyMul (dIxO 0 (dC (.int 1))) (dIxO 0 (dC (.int 1))))]) (dC (.int 2147483629))) (dC (.int 32)))]) (dVar 1)))))
def FTake : Fn := runF 3 bTake
omit [Tbl] in
theorem take_eq (s : Src) (t : Int) (h : 0 < t) (hl : t.natAbs.log2 < 9000) : FTake [.io s.l, .pv (.int t)] = .val (.int (s.draw t).1) [.io (s.draw t).2.l, .pv (.int t)] := by
  obtain ⟨a, b, ha, hb⟩ := s
  unfold FTake runF bTake
  by_cases h0 : 0 < a
  · simp [slots, Src.l, h0, Src.draw, h, mod_pos h, div_pos h hl, backs, backAt]
  · have m1 : pyMul (.int b) (.int 39373) = some (.int (b * 39373)) := mul_int (.right (by decide))
    have p1 : pyMod (.int (b * 39373 + 7)) (.int 2147483647) = some (.int ((b * 39373 + 7) % 2147483647)) := mod_pos (by decide)
    have hb0 := Int.emod_nonneg (b * 39373 + 7) (show (2147483647 : Int) ≠ 0 by decide)
    have hb1 := Int.emod_lt_of_pos (b * 39373 + 7) (show (0 : Int) < 2147483647 by decide)
    generalize hc : (b * 39373 + 7) % 2147483647 = c at hb0 hb1 p1
    have m2 : pyMul (.int c) (.int c) = some (.int (c * c)) := mul_int (.right (by omega))
    have p2 : pyMod (.int (c * c)) (.int 2147483629) = some (.int (c * c % 2147483629)) := mod_pos (by decide)
    have p3 : pyDiv (.int (c * c % 2147483629)) (.int 32) = some (.int (c * c % 2147483629 / 32)) := div_pos (by decide) (by decide)
    simp [slots, Src.l, h0, Src.draw, h, mod_pos h, m1, p1, m2, p2, p3, backs, backAt, hc]
end TL

namespace TL
open PySem PySem.Spec PyProof.Rows L2
variable [Tbl]
omit [Tbl] in
theorem seq_nx {a b : DS} {e e1 : En} (h : a e = .nx e1) : dSeq a b e = b e1 := by
  unfold dSeq
  rw [h]
  rfl
omit [Tbl] in
theorem runF_rl {n : Nat} {body : DS} {as : List Sl} {e0 env : En} {ds : List PyData} (he : slots as ++ List.replicate (n - as.length) none = e0) (h : body e0 = .rl ds env) : runF n body as = .fresh ds (backs as env) := by
  unfold runF
  rw [he, h]
def bPoolR : DS :=
    (dSeq (dAsg (dCB pyMax2 [(dCB pyInt [(dVar 2)]), (dCB pyInt [(dOp pySub (dNeg (dC (.int 1))) (dVar 2))])]) (gNm 3))
    (dSeq (dAsg (dOp pyMod (dCB pyInt [(dOp pyMul (dOp pyAdd (dOp pyAdd (dOp pyAdd (dOp pyMod (dCB pyInt [(dVar 3)]) (dC (.int 2147483629))) (dOp pyMul (dOp pyMul (dC (.int 7919)) (dVar 1)) (dVar 1))) (dOp pyMul (dC (.int 31)) (dVar 1))) (dC (.int 17))) (dC (.int 48271)))]) (dC (.int 2147483647))) (gNm 4))
    (dRetF (fLst [(dOp pyMul (dVar 3) (dCB pyInt [(dOp pyGe (dVar 3) (dOp pyPow (dC (.int 10)) (dC (.int 18))))])), (dVar 4)]))))
def bPool : DS :=
    (dSeq (dAsg (dC (.int 0)) (gNm 2))
    (dSeq (dIfS (dBool (dOp pyLt (dVar 1) (dLenO 0))) (dAsg (dIxO 0 (dVar 1)) (gNm 2)) dPass) bPoolR))
def FPool : Fn := runF 5 bPool
def poolBig (cell : Int) : Int := if -1 - cell > cell then -1 - cell else cell
omit [Tbl] in
theorem poolBig_nn (cell : Int) : 0 ≤ poolBig cell := by
  unfold poolBig
  split <;> omega
def poolMul (x : Int) : Int := x * (if 1000000000000000000 ≤ x then 1 else 0)
omit [Tbl] in
theorem poolMul_nn {x : Int} (h : 0 ≤ x) : 0 ≤ poolMul x := by
  unfold poolMul
  split <;> omega
def poolMix (x k : Int) : Int := (x % 2147483629 + 7919 * k * k + 31 * k + 17) * 48271 % 2147483647
def pool2 (cell k : Int) : Src := ⟨poolMul (poolBig cell), poolMix (poolBig cell) k, poolMul_nn (poolBig_nn cell), Int.emod_nonneg _ (by decide), Int.emod_lt_of_pos _ (by decide)⟩
def pool (ns : List Int) (k : Nat) : Src := pool2 (ns.getD k 0) k
omit [Tbl] in
theorem poolMul_py (x : Int) : pyMul (.int x) (.int (if 1000000000000000000 ≤ x then 1 else 0)) = some (.int (poolMul x)) := mul_int (.right (by split <;> decide))
omit [Tbl] in
theorem poolBig_py (cell : Int) : pyMax2 [.int cell, .int (-1 - cell)] = some (.int (poolBig cell)) := by
  unfold poolBig
  simp
omit [Tbl] in
theorem poolMix_step (A B C D E F : Int) (ns : List Int) (k cell big : Int) (r : PyData) (n1 n2 n3 n4 n5 : Int) (h1 : pyMod (.int big) (.int A) = some (.int n1)) (h2 : pyMul (.int B) (.int k) = some (.int n2)) (h3 : pyMul (.int n2) (.int k) = some (.int n3)) (h4 : pyMul (.int C) (.int k) = some (.int n4)) (h5 : pyMul (.int (n1 + n3 + n4 + D)) (.int E) = some (.int n5)) (h6 : pyMod (.int n5) (.int F) = some r) :
    (dAsg (dOp pyMod (dCB pyInt [(dOp pyMul (dOp pyAdd (dOp pyAdd (dOp pyAdd (dOp pyMod (dCB pyInt [(dVar 3)]) (dC (.int A))) (dOp pyMul (dOp pyMul (dC (.int B)) (dVar 1)) (dVar 1))) (dOp pyMul (dC (.int C)) (dVar 1))) (dC (.int D))) (dC (.int E)))]) (dC (.int F))) (gNm 4)) [some (.sc ns), some (.pv (.int k)), some (.pv (.int cell)), some (.pv (.int big)), none] = .nx [some (.sc ns), some (.pv (.int k)), some (.pv (.int cell)), some (.pv (.int big)), some (.pv r)] := by
  simp [h1, h2, h3, h4, h5, h6]
omit [Tbl] in
theorem poolMix_eq (ns : List Int) (k : Nat) (hk : k ≤ 1000) (cell big : Int) : (dAsg (dOp pyMod (dCB pyInt [(dOp pyMul (dOp pyAdd (dOp pyAdd (dOp pyAdd (dOp pyMod (dCB pyInt [(dVar 3)]) (dC (.int 2147483629))) (dOp pyMul (dOp pyMul (dC (.int 7919)) (dVar 1)) (dVar 1))) (dOp pyMul (dC (.int 31)) (dVar 1))) (dC (.int 17))) (dC (.int 48271)))]) (dC (.int 2147483647))) (gNm 4)) [some (.sc ns), some (.pv (.int k)), some (.pv (.int cell)), some (.pv (.int big)), none] = .nx [some (.sc ns), some (.pv (.int k)), some (.pv (.int cell)), some (.pv (.int big)), some (.pv (.int (poolMix big k)))] :=
  poolMix_step _ _ _ _ _ _ ns k cell big _ _ _ _ _ _ (mod_pos (by decide)) (mul_int (.left (by decide))) (mul_int (.left (by omega))) (mul_int (.left (by decide))) (mul_int (.right (by decide))) (mod_pos (by decide))
omit [Tbl] in
theorem poolR_eq (ns : List Int) (k : Nat) (hk : k ≤ 1000) (cell : Int) : bPoolR [some (.sc ns), some (.pv (.int k)), some (.pv (.int cell)), none, none] = .rl (pool2 cell k).l [some (.sc ns), some (.pv (.int k)), some (.pv (.int cell)), some (.pv (.int (poolBig cell))), some (.pv (.int (poolMix (poolBig cell) k)))] := by
  have w1 : pyPow (.int 10) (.int 18) = some (.int 1000000000000000000) := pow_int (by decide)
  unfold bPoolR
  have hB := poolBig_py cell
  have h1 : (dAsg (dCB pyMax2 [(dCB pyInt [(dVar 2)]), (dCB pyInt [(dOp pySub (dNeg (dC (.int 1))) (dVar 2))])]) (gNm 3)) [some (.sc ns), some (.pv (.int k)), some (.pv (.int cell)), none, none] = .nx [some (.sc ns), some (.pv (.int k)), some (.pv (.int cell)), some (.pv (.int (poolBig cell))), none] := by
    simp [hB]
  refine (seq_nx h1).trans ?_
  refine (seq_nx (poolMix_eq ns k hk cell _)).trans ?_
  show _ = OutS.rl [PyData.int (poolMul (poolBig cell)), PyData.int (poolMix (poolBig cell) k)] _
  generalize poolMix (poolBig cell) k = mix
  simp [w1, poolMul_py]
omit [Tbl] in
theorem pool_eq (ns : List Int) (k : Nat) (hk : k ≤ 1000) : FPool [.sc ns, .pv (.int k)] = .fresh (pool ns k).l [.sc ns, .pv (.int k)] := by
  have key : bPool [some (.sc ns), some (.pv (.int k)), none, none, none] = .rl (pool ns k).l [some (.sc ns), some (.pv (.int k)), some (.pv (.int (ns.getD k 0))), some (.pv (.int (poolBig (ns.getD k 0)))), some (.pv (.int (poolMix (poolBig (ns.getD k 0)) k)))] := by
    unfold bPool
    refine (seq_nx (e1 := [some (.sc ns), some (.pv (.int k)), some (.pv (.int 0)), none, none]) ?_).trans ?_
    · simp
    refine Eq.trans (seq_nx ?_) (poolR_eq ns k hk (ns.getD k 0))
    by_cases h : k < ns.length
    · have hc : ixO (some (ns.map .int)) (.int (k : Int)) = some (.int (ns.getD k 0)) := by
        show atI (ns.map PyData.int) (k : Int) = _
        refine atI_nat ?_
        rw [List.getElem?_map, List.getElem?_eq_getElem h, List.getD_eq_getElem?_getD, List.getElem?_eq_getElem h]
        rfl
      generalize ns.getD k 0 = cell at hc
      simp [h, hc]
    · have hc : ns.getD k 0 = 0 := by
        rw [List.getD_eq_getElem?_getD, List.getElem?_eq_none (by omega)]
        rfl
      rw [hc]
      simp [h]
  exact runF_rl (n := 5) (as := [.sc ns, .pv (.int k)]) rfl key

def bOne (T : Fn) : DS := (dRet (dOp pyIx (dVar 1) (dCallS T 0 [(dCB pyLen [(dVar 1)])])))
def FOne : Fn := runF 2 (bOne FTake)
def Src.one (s : Src) (n : Nat) : Nat × Src := ((s.draw n).1.toNat, (s.draw n).2)
omit [Tbl] in
theorem Src.one_lt (s : Src) {n : Nat} (h : 0 < n) : (s.one n).1 < n := by
  have h1 := s.draw_nn (t := (n : Int)) (by omega)
  have h2 := s.draw_lt (t := (n : Int)) (by omega)
  show (s.draw n).1.toNat < n
  omega
omit [Tbl] in
theorem one_eq (s : Src) (ds : List PyData) (h0 : 0 < ds.length) (h1 : ds.length ≤ 1000000) : FOne [.io s.l, .pv (.list ds)] = .val (ds.getD (s.one ds.length).1 .none) [.io (s.one ds.length).2.l, .pv (.list ds)] := by
  have ht := take_eq s ds.length (by omega) (by
    refine log2_lt (k := 9000) ?_ (by decide)
    have : (ds.length : Int).natAbs = ds.length := by omega
    rw [this]
    exact Nat.lt_of_le_of_lt h1 (by decide))
  have hlt := s.one_lt h0
  have hix : pyIx (.list ds) (.int (s.draw ds.length).1) = some (ds.getD (s.one ds.length).1 .none) := by
    have e : (s.draw ds.length).1 = ((s.one ds.length).1 : Int) := by
      have h1 := s.draw_nn (t := (ds.length : Int)) (by omega)
      show (s.draw ds.length).1 = ((s.draw ds.length).1.toNat : Int)
      omega
    rw [e]
    show atI ds _ = _
    refine atI_nat ?_
    rw [List.getD_eq_getElem?_getD, List.getElem?_eq_getElem hlt]
    rfl
  unfold FOne runF bOne
  simp [slots, ht, hix, backs, backAt]
  rfl

end TL

namespace TL
open PySem PySem.Spec PyProof.Rows L2
variable [Tbl]
omit [Tbl] in
@[simp] theorem isA_int_none  : isA "int" .none = some false := by
  show kitB "NoneType" "int" = _
  decide +kernel
omit [Tbl] in
@[simp] theorem isA_int_bool (b : Bool) : isA "int" (.bool b) = some true := by
  show kitB "bool" "int" = _
  decide +kernel
omit [Tbl] in
@[simp] theorem isA_int_int (n : Int) : isA "int" (.int n) = some true := by
  show kitB "int" "int" = _
  decide +kernel
omit [Tbl] in
@[simp] theorem isA_int_str (s : Str) : isA "int" (.str s) = some false := by
  show kitB "str" "int" = _
  decide +kernel
omit [Tbl] in
@[simp] theorem isA_int_list (ds : List PyData) : isA "int" (.list ds) = some false := by
  show kitB "list" "int" = _
  decide +kernel
omit [Tbl] in
@[simp] theorem isA_int_tuple (ds : List PyData) : isA "int" (.tuple ds) = some false := by
  show kitB "tuple" "int" = _
  decide +kernel
omit [Tbl] in
@[simp] theorem isA_bool_none  : isA "bool" .none = some false := by
  show kitB "NoneType" "bool" = _
  decide +kernel
omit [Tbl] in
@[simp] theorem isA_bool_bool (b : Bool) : isA "bool" (.bool b) = some true := by
  show kitB "bool" "bool" = _
  decide +kernel
omit [Tbl] in
@[simp] theorem isA_bool_int (n : Int) : isA "bool" (.int n) = some false := by
  show kitB "int" "bool" = _
  decide +kernel
omit [Tbl] in
@[simp] theorem isA_bool_str (s : Str) : isA "bool" (.str s) = some false := by
  show kitB "str" "bool" = _
  decide +kernel
omit [Tbl] in
@[simp] theorem isA_bool_list (ds : List PyData) : isA "bool" (.list ds) = some false := by
  show kitB "list" "bool" = _
  decide +kernel
omit [Tbl] in
@[simp] theorem isA_bool_tuple (ds : List PyData) : isA "bool" (.tuple ds) = some false := by
  show kitB "tuple" "bool" = _
  decide +kernel
omit [Tbl] in
@[simp] theorem isA_tuple_none  : isA "tuple" .none = some false := by
  show kitB "NoneType" "tuple" = _
  decide +kernel
omit [Tbl] in
@[simp] theorem isA_tuple_bool (b : Bool) : isA "tuple" (.bool b) = some false := by
  show kitB "bool" "tuple" = _
  decide +kernel
omit [Tbl] in
@[simp] theorem isA_tuple_int (n : Int) : isA "tuple" (.int n) = some false := by
  show kitB "int" "tuple" = _
  decide +kernel
omit [Tbl] in
@[simp] theorem isA_tuple_str (s : Str) : isA "tuple" (.str s) = some false := by
  show kitB "str" "tuple" = _
  decide +kernel
omit [Tbl] in
@[simp] theorem isA_tuple_list (ds : List PyData) : isA "tuple" (.list ds) = some false := by
  show kitB "list" "tuple" = _
  decide +kernel
omit [Tbl] in
@[simp] theorem isA_tuple_tuple (ds : List PyData) : isA "tuple" (.tuple ds) = some true := by
  show kitB "tuple" "tuple" = _
  decide +kernel
omit [Tbl] in
@[simp] theorem isA_list_none  : isA "list" .none = some false := by
  show kitB "NoneType" "list" = _
  decide +kernel
omit [Tbl] in
@[simp] theorem isA_list_bool (b : Bool) : isA "list" (.bool b) = some false := by
  show kitB "bool" "list" = _
  decide +kernel
omit [Tbl] in
@[simp] theorem isA_list_int (n : Int) : isA "list" (.int n) = some false := by
  show kitB "int" "list" = _
  decide +kernel
omit [Tbl] in
@[simp] theorem isA_list_str (s : Str) : isA "list" (.str s) = some false := by
  show kitB "str" "list" = _
  decide +kernel
omit [Tbl] in
@[simp] theorem isA_list_list (ds : List PyData) : isA "list" (.list ds) = some true := by
  show kitB "list" "list" = _
  decide +kernel
omit [Tbl] in
@[simp] theorem isA_list_tuple (ds : List PyData) : isA "list" (.tuple ds) = some false := by
  show kitB "tuple" "list" = _
  decide +kernel
omit [Tbl] in
@[simp] theorem isA_str_none  : isA "str" .none = some false := by
  show kitB "NoneType" "str" = _
  decide +kernel
omit [Tbl] in
@[simp] theorem isA_str_bool (b : Bool) : isA "str" (.bool b) = some false := by
  show kitB "bool" "str" = _
  decide +kernel
omit [Tbl] in
@[simp] theorem isA_str_int (n : Int) : isA "str" (.int n) = some false := by
  show kitB "int" "str" = _
  decide +kernel
omit [Tbl] in
@[simp] theorem isA_str_str (s : Str) : isA "str" (.str s) = some true := by
  show kitB "str" "str" = _
  decide +kernel
omit [Tbl] in
@[simp] theorem isA_str_list (ds : List PyData) : isA "str" (.list ds) = some false := by
  show kitB "list" "str" = _
  decide +kernel
omit [Tbl] in
@[simp] theorem isA_str_tuple (ds : List PyData) : isA "str" (.tuple ds) = some false := by
  show kitB "tuple" "str" = _
  decide +kernel
instance (k : Nat) (n : Int) : Decidable (Sz k n) := inferInstanceAs (Decidable (_ < _))
omit [Tbl] in
@[simp] theorem handle_yes {catches : Str → Option Bool} {i : Nat} {su : DXS} {c : Str} {fs : List (Str × PyData)} {env : En} (h : catches c = some true) (hf : free? env i = true) : handle catches i su c fs env = caught i (su c fs (env.set i none)) := by
  unfold handle
  rw [h]
  simp [hf]
omit [Tbl] in
theorem shp_pair (p q : Int) : SeqAt.shaped (.tuple [.int p, .int q]) = true := by
  simp [SeqAt.shaped, PyData.canLay0, PyData.canLayAll0, PyData.depth, PyData.depthAll]
  try decide +kernel
end TL

namespace TL
open PySem PySem.Spec PyProof.Rows L2
variable [Tbl]
section
variable {X : Cx} {W : WX} {k : Nat} {tg iter e a b c : Expr} {d da db dc : D} {dl : DL} {pos p : Pos} {x y : Str}
end
end TL

namespace TL
open PySem PySem.Spec PyProof.Rows L2
variable [Tbl]
def wipeE (env : En) : List Nat → En
  | [] => env
  | v :: vs => (wipeE env vs).set v none
omit [Tbl] in
theorem wipeE_len (env : En) : ∀ vs : List Nat, (wipeE env vs).length = env.length
  | [] => rfl
  | v :: vs => by unfold wipeE; rw [List.length_set, wipeE_len env vs]
omit [Tbl] in
theorem wipeE_some {env : En} {i : Nat} {s : Sl} : ∀ {vs : List Nat}, (wipeE env vs)[i]? = some (some s) → env[i]? = some (some s) ∧ i ∉ vs
  | [], h => ⟨h, by simp⟩
  | v :: vs, h => by
    unfold wipeE at h
    rcases get_set h with ⟨_, h2⟩ | ⟨h1, h2⟩
    · cases h2
    · obtain ⟨h3, h4⟩ := wipeE_some h2
      exact ⟨h3, by simp only [List.mem_cons, not_or]; exact ⟨fun e => h1 e.symm, h4⟩⟩
omit [Tbl] in
theorem wipeE_out {env : En} {i : Nat} : ∀ {vs : List Nat}, i ∉ vs → (wipeE env vs)[i]? = env[i]?
  | [], _ => rfl
  | v :: vs, h => by
    have h1 : v ≠ i := fun e => h (by rw [e]; exact List.mem_cons_self)
    unfold wipeE
    rw [List.getElem?_set_ne h1]
    exact wipeE_out fun m => h (List.mem_cons_of_mem _ m)
def backE (e1 en : En) (vs : List Nat) : En := en.mapIdx fun i s => if i ∈ vs then e1[i]?.getD none else s
section
variable {K : PySem.W.Frag} {O0 : Addr → Prop} {env e1 e2 : En} {σ σ1 σ2 : L2.St} {H H1 H2 : Hp} {D : Addr} {ds : List PyData} {ps : List V} {vs : List Nat}
omit [Tbl] in
theorem own_wipe {a : Addr} (h : Own (wipeE env vs) (wipe σ vs) a) : Own env σ a := by
  obtain ⟨i, s, e, m, es⟩ := h
  obtain ⟨e', hi⟩ := wipeE_some e
  exact ⟨i, s, e', m, (wipe_some es).1⟩
theorem Ok.wipe (ok : Ok K O0 env σ H) : Ok K O0 (wipeE env vs) (wipe σ vs) H where
  len := by rw [wipeE_len, wipe_length]; exact ok.len
  val := fun i s e => by
    obtain ⟨e', hi⟩ := wipeE_some e
    obtain ⟨v, ev, r⟩ := ok.val i s e'
    exact ⟨v, by rw [wipe_out hi]; exact ev, RS.shrink (fun a z => z.elim .inl fun z => .inr (own_wipe z)) r⟩
  inj := fun i j s t a h1 m1 h2 m2 h3 h4 => ok.inj i j s t a (wipeE_some h1).1 m1 (wipeE_some h2).1 m2 (wipe_some h3).1 (wipe_some h4).1
  lst := ok.lst
  dis := fun a h => ok.dis a (own_wipe h)
  tab := ok.tab
structure StpD (K : PySem.W.Frag) (O1 : Addr → Prop) (D : Addr) (env : En) (σ : L2.St) (H : Hp) (env' : En) (H' : Hp) : Prop where
  ok : Ok K O1 env' σ H'
  keep : ∀ a o, a ≠ D → H a = some o → ¬ Own env σ a → NT o → H' a = some o
  dom : ∀ a, H a ≠ none → H' a ≠ none
  le : ∀ a, Own env' σ a → Own env σ a
  io : ∀ (i : Nat) (ds : List PyData), env[i]? = some (some (Sl.io ds)) → ∃ ds', env'[i]? = some (some (Sl.io ds'))
theorem StpD.turn {e0 : En} {H0 : Hp} (S : StpD K (With O0 D) D (wipeE e0 vs) (L2.wipe σ vs) H0 e1 H1) (T : Stp K (With O0 D) e1 (L2.wipe σ vs) H1 e2 σ2 H2) (hw : L2.wipe σ2 vs = L2.wipe σ vs) (ho : ∀ a, Own e2 σ2 a → Own e1 (L2.wipe σ vs) a) :
    StpD K (With O0 D) D (wipeE e0 vs) (L2.wipe σ vs) H0 (wipeE e2 vs) H2 where
  ok := by
    rw [← hw]
    exact T.ok.wipe
  keep := fun a o n h1 h2 nt => T.keep a o (S.keep a o n h1 h2 nt) (fun z => h2 (S.le a z)) nt
  dom := fun a h => T.dom a (S.dom a h)
  le := fun a h => by
    rw [← hw] at h
    exact S.le a (ho a (own_wipe h))
  io := fun i ds h => by
    obtain ⟨d1, h1⟩ := S.io i ds h
    obtain ⟨⟨d2, h2⟩, _⟩ := T.io i d1 h1
    exact ⟨d2, by rw [wipeE_out (wipeE_some h).2]; exact h2⟩
theorem StpD.new {e0 : En} {H0 : Hp} {p : Addr} {o : HO} (S : StpD K (With O0 D) D e0 σ H0 e1 H1) (hp : H1 p = none) : StpD K (With O0 D) D e0 σ H0 e1 (upd H1 p o) where
  ok := S.ok.new hp
  keep := fun a u n h1 h2 nt => by
    have := S.keep a u n h1 h2 nt
    rw [upd_ne (ne_of_none this hp)]
    exact this
  dom := fun a h => by
    by_cases z : a = p
    · subst z
      exact absurd hp (S.dom _ h)
    · rw [upd_ne z]
      exact S.dom a h
  le := S.le
  io := S.io
theorem StpD.goes (ok : Ok K O0 e1 σ H1) (hD : H1 D = none) (S : StpD K (With O0 D) D (wipeE e1 vs) (L2.wipe σ vs) (upd H1 D (.lst [])) e2 H2) : Goes K (Al O0 e1 σ) H1 (Al (With O0 D) e2 (L2.wipe σ vs)) H2 :=
  ⟨fun a xs h n => by
    have ne : a ≠ D := ne_of_none h hD
    have h' : upd H1 D (.lst []) a = some (.lst xs) := by rw [upd_ne ne]; exact h
    refine ⟨S.keep a _ ne h' (fun z => n (.inr (own_wipe z))) nt_lst, fun z => ?_⟩
    rcases z with (z | z) | z
    · exact n (.inl z)
    · exact ne z
    · exact n (.inr (own_wipe (S.le a z))), fun a xs h => by
    have go : ∀ o, H1 a = some o → (∀ ys, o ≠ .lst ys) → NT o → H2 a = some o := fun o e nl nt => by
      have ne : a ≠ D := ne_of_none e hD
      refine S.keep a _ ne (by rw [upd_ne ne]; exact e) (fun z => ?_) nt
      obtain ⟨ys, ey⟩ := ok.own (own_wipe z)
      rw [e] at ey
      cases ey
      exact nl _ rfl
    rcases h with (h | ⟨o, h⟩) | h
    · exact .inl (.inl (go _ h (fun ys z => by cases z) nt_tup))
    · exact .inl (.inr ⟨o, go _ h (fun ys z => by cases z) nt_frz⟩)
    · exact .inr h, fun a h => by
    have go : ∀ o, H1 a = some o → (∀ ys, o ≠ .lst ys) → NT o → H2 a = some o := fun o e nl nt => by
      have ne : a ≠ D := ne_of_none e hD
      refine S.keep a _ ne (by rw [upd_ne ne]; exact e) (fun z => ?_) nt
      obtain ⟨ys, ey⟩ := ok.own (own_wipe z)
      rw [e] at ey
      cases ey
      exact nl _ rfl
    exact h.elim (fun ⟨k, h⟩ => .inl ⟨k, go _ h (fun ys z => by cases z) nt_dK⟩) fun ⟨k, h, d⟩ => .inr ⟨k, go _ h (fun ys z => by cases z) nt_ext, d⟩⟩
end
end TL

namespace TL
open PySem PySem.Spec PyProof.Rows L2
variable [Tbl]
section
variable {X : Cx} {W : WX} {k : Nat}
section
variable {elt tg iter : Expr} {ifs : List Expr} {scope : Scope} {own : List (Str × Nat)} {pos : Pos} {dl : DL} {g : DG} {t : DT} {d : D}
end
end
end TL

namespace TL
open PySem PySem.Spec PyProof.Rows L2
variable [Tbl]
abbrev DOp := En → Out (Option Int × En)
def tOp (Y : Pm) (d : DOp) : TO := fun σ H Q => ∃ env, Ok Y.K Y.O0 env σ H ∧ EndE Y env σ H (fun l _ H' => Q l H') (d env)
def DPO (X : Cx) (W : WX) (o : Option Expr) (d : DOp) : Prop := ∀ O0, PO X o (tOp (Cx.pm X W O0) d)
def dNoP : DOp := fun env => .ok (none, env)
def dPrt (d : D) : DOp := fun env => (d env).bind fun (v, e1) => match v with
  | .int i => .ok (some i, e1)
  | _ => .stuck
def cutD (xs : List PyData) (lo hi : Option Int) : List PyData := (xs.drop (HT.sIx xs.length 0 lo)).take (HT.sIx xs.length xs.length hi - HT.sIx xs.length 0 lo)
def pySl : PyData → Option Int → Option Int → Option PyData
  | .list ds, lo, hi => some (.list (cutD ds lo hi))
  | .tuple ds, lo, hi => some (.tuple (cutD ds lo hi))
  | _, _, _ => none
def dSl (d : D) (l h : DOp) : D := fun env => (d env).bind fun (v, e1) => (l e1).bind fun (lo, e2) => (h e2).bind fun (hi, e3) => (Out.of (pySl v lo hi)).bind fun u => .ok (u, e3)
section
variable {X : Cx} {W : WX} {k : Nat} {e a b c : Expr} {d da db : D} {l h : DOp} {lo hi : Option Expr} {pos p2 : Pos} {x : Str}
omit [Tbl] in
theorem PO.imp {o : Option Expr} {t t' : TO} (h : PO X o t) (i : ∀ σ H Q, t' σ H Q → t σ H Q) : PO X o t' := ⟨fun pins s σ H Q I q => h.run pins s σ H Q I (i _ _ _ q)⟩
theorem po_no : DPO X W none dNoP := fun O0 => PO.imp po_none fun σ H Q ⟨env, ok, q⟩ => q H (StpE.refl ok)
theorem po_of (h : DE X W e d) : DPO X W (some e) (dPrt d) := fun O0 => PO.imp (po_some (h O0)) fun σ H Q ⟨env, ok, q⟩ => ⟨env, ok, EndE.bind q fun v e1 H1 s1 q1 p rp => by
  dsimp only at q1
  split at q1
  · cases rp
    exact ⟨_, rfl, q1 H1 (StpE.refl s1.ok)⟩
  · exact (show False from q1).elim⟩
omit [Tbl] in
theorem Rps.cut {K : PySem.W.Frag} {O : Addr → Prop} {H : Hp} {ds : List PyData} {xs : List V} (r : Rps K O H ds xs) (lo hi : Option Int) : Rps K O H (cutD ds lo hi) (cutV xs lo hi) := by
  unfold cutD cutV
  rw [r.length]
  exact (r.drop _).take _
theorem de_sl (he : DE X W e d) (hl : DPO X W lo l) (hu : DPO X W hi h) : DE X W (.Subscript e (.Slice lo hi none p2) pos) (dSl d l h) := fun O0 =>
  PE.imp (pe_slice (SlR.or sl_list sl_tupA) (he O0) (hl O0) (hu O0)) fun σ H Q ⟨env, ok, q⟩ => ⟨env, ok, EndE.bind q fun v e1 H1 s1 q1 p rp => ⟨e1, s1.ok, EndE.bind q1 fun lo e2 H2 s2 q2 => ⟨e2, s2.ok, EndE.bind q2 fun hi e3 H3 s3 q3 => by
    obtain ⟨u, hu, q4⟩ := EndE.of q3
    clear q q1 q2 q3
    have rp := (s2.trans s3).step.rp s1.ok rp
    unfold pySl at hu
    split at hu
    · cases hu
      cases rp with
      | lst h1 h2 h3 => exact .inl ⟨_, _, rfl, .inl (.inl h1), fun p hp => q4 _ (StpE.new s3.ok hp) _ (Rp.newL s3.ok hp (h3.cut _ _))⟩
    · cases hu
      cases rp with
      | @tup ad xs _ h1 h3 =>
        refine .inr ⟨_, _, rfl, h1, fun hw => ?_, fun _ p hp => q4 _ (StpE.new s3.ok hp) _ (Rp.newT hp (h3.cut _ _))⟩
        refine q4 _ (StpE.refl s3.ok) _ (.tup h1 ?_)
        unfold cutD
        rw [h3.length, hw.1, hw.2]
        have : (List.drop 0 ‹List PyData›).take (xs.length - 0) = ‹List PyData› := by
          rw [List.drop_zero, Nat.sub_zero, ← h3.length, List.take_length]
        rw [this]
        exact h3
    · cases hu⟩⟩⟩
theorem de_glob {v : PyData} {u : V} {uv : Value} (hg : Gl X x) (hm : X.mg x = some uv) (r : RelV u uv) (hr : ∀ K O H, Rp K O H v u) (hd : (x == ("__debug__" : Str)) = false := by decide) : DE X W (.Name x pos) (dC v) := de_c (pe_glob hg hm r hd) hr
theorem de_globI {n : Int} (hm : ∃ uv, X.mg x = some uv ∧ RelV (.int n) uv) (hg : Gl X x := by rfl) (hd : (x == ("__debug__" : Str)) = false := by decide) : DE X W (.Name x pos) (dC (.int n)) := by
  obtain ⟨uv, h1, h2⟩ := hm
  exact de_glob hg h1 h2 (fun _ _ _ => .int n) hd
end
end TL

namespace TL
open PySem PySem.Spec PySem.W PyProof.Rows L2
variable [Tbl]
omit [Tbl] in
theorem loose_int {p : Program} {lv : List (Str × WData)} {mg : Str → Option Value} {h : Heap} {x : Str} {n : Int} (X : XL p lv mg h) (hx : (x, WData.int n) ∈ lv) : ∃ uv, mg x = some uv ∧ RelV (.int n) uv := by
  obtain ⟨v, a, r⟩ := X.2.val _ hx
  cases r
  exact ⟨_, a, ⟨_, rfl⟩⟩
end TL

namespace TL
open PySem PySem.Spec PyProof.Rows L2
variable [Tbl]
section
variable {g : DG} {t : DT} {d : D} {ws : List Nat}
end
end TL

namespace TL
open PySem PySem.Spec PyProof.Rows L2
variable [Tbl]
section
variable {X : Cx} {W : WX} {k : Nat} {e a b c o : Expr} {d da db : D} {es : List Expr} {ds : List D} {pos p : Pos} {x y : Str}
def pyTuple : List PyData → Option PyData
  | [.list ds] => some (.tuple ds)
  | [.tuple ds] => some (.tuple ds)
  | _ => none
theorem cd_tuple {K : PySem.W.Frag} : CaD K (fun xs H Q => ∃ p ys, xs = [.ref p] ∧ ((SqL K H p ys ∧ ∀ l, H l = none → Q (.ref l) (upd H l (.tup ys))) ∨ (SqT K H p ys ∧ Q (.ref p) H))) pyTuple := fun O0 env σ H vs u ps Q ok rps e k => by
  unfold pyTuple at e
  split at e
  · cases e
    cases rps with
    | cons h t => cases t; cases h with
      | lst h1 h2 h3 => exact ⟨_, _, rfl, .inl ⟨.inl (.inl h1), fun l hl => k _ _ (StpE.new ok hl) (Rp.newT hl h3)⟩⟩
  · cases e
    cases rps with
    | cons h t => cases t; cases h with
      | tup h1 h3 => exact ⟨_, _, rfl, .inr ⟨h1, k H _ (StpE.refl ok) (.tup h1 h3)⟩⟩
  · cases e
theorem de_tuple (hm : X.mg "tuple" = none) (ha : DAs X W [a] (dArgs [da])) (hg : Gl X "tuple" := by rfl) (he : starEach [a] X.env = (false, eval a X.env) :: starEach [] X.env := by rfl) (hpl : (backTo pos (starEach [] X.env)).any (·.1) = false := by rfl) :
    DE X W (.Call (.Name "tuple" p) [a] [] pos) (dCB pyTuple [da]) := de_callTy call_tuple_of cd_tuple (by decide +kernel) hm ha hg (by decide) (by decide) he hpl

theorem args_endG {Y : Pm} {α : Type} {env : En} {σ : L2.St} {H : Hp} {ds : List D} {f : List PyData → En → Out (α × En)} {g : α → En → Hp → Prop} {g' : List PyData → En → Hp → Prop} (q : EndE Y env σ H g ((dArgs ds env).bind fun (vs, e1) => f vs e1))
    (i : ∀ vs e' H', vs.length = ds.length → StpE Y.K Y.O0 env σ H e' H' → EndE Y e' σ H' g (f vs e') → g' vs e' H') : EndE Y env σ H g' (dArgs ds env) := by
  cases h : dArgs ds env with
  | ok p =>
    obtain ⟨vs, e1⟩ := p
    rw [h] at q
    exact fun H' s => i vs e1 H' (dArgs_len _ _ _ _ h) s (EndE.shift s q)
  | ex c fs e1 => rw [h] at q; exact q
  | stuck => rw [h] at q; exact q
def seqOf : PyData → Option (List PyData)
  | .list ds => some ds
  | .tuple ds => some ds
  | _ => none
def dListF (d : D) : DL := fun env => (dArgs [d] env).bind fun (vs, e1) => (Out.of (seqOf (vs.headD .none))).bind fun ds => .ok (ds, e1)
theorem df_listOf (hm : X.mg "list" = none) (ha : DAs X W [a] (dArgs [da])) (hg : Gl X "list" := by rfl) (he : starEach [a] X.env = (false, eval a X.env) :: starEach [] X.env := by rfl) (hpl : (backTo pos (starEach [] X.env)).any (·.1) = false := by rfl) :
    DF X W (.Call (.Name "list" p) [a] [] pos) (dListF da) := fun O0 =>
  PE.imp (pe_callTy call_list_of hg hm (by decide +kernel) (ha O0) (by decide) (by decide) he hpl) fun σ H Q ⟨env, ok, q⟩ => ⟨env, ok, args_endG (f := fun vs e1 => (Out.of (seqOf (vs.headD .none))).bind fun ds => .ok (ds, e1)) q fun vs e1 H1 hv s1 q1 ps rps => by
    obtain ⟨ds, hd, q2⟩ := EndE.of q1
    cases rps with
    | nil => cases hv
    | cons r1 r2 =>
    cases r2 with
    | cons _ _ => cases hv
    | nil =>
    clear q1
    simp only [List.headD_cons] at hd
    unfold seqOf at hd
    split at hd
    · cases hd
      cases r1 with
      | lst h1 h2 h3 => exact ⟨_, _, rfl, .inl (.inl (.inl h1)), fun l hl => q2 _ (StpE.new s1.ok hl) l _ (Fresh.lay s1.ok hl (s1.no hl) h3)⟩
    · cases hd
      cases r1 with
      | tup h1 h3 => exact ⟨_, _, rfl, .inr h1, fun l hl => q2 _ (StpE.new s1.ok hl) l _ (Fresh.lay s1.ok hl (s1.no hl) h3)⟩
    · cases hd⟩
def MwD (K : PySem.W.Frag) (r : V → List V → Hp → VK → Prop) (g : List PyData → List PyData → Option (PyData × List PyData)) : Prop :=
  ∀ (O : Addr → Prop) (H : Hp) (a : Addr) (ps qs : List V) (xs vs : List PyData) (u : PyData) (xs' : List PyData) (Q : VK), H a = some (.lst ps) → Rps K O H xs ps → Rps K O H vs qs → g xs vs = some (u, xs') →
    (∀ ps' p', Rps K O H xs' ps' → Rp K O H u p' → Q p' (upd H a (.lst ps'))) → r (.ref a) qs H Q
def dMeth (g : List PyData → List PyData → Option (PyData × List PyData)) (i : Nat) (ds : List D) : D := fun env => (Out.of (ownAt env i)).bind fun _ => (dArgs ds env).bind fun (vs, e1) => (Out.of ((ownAt e1 i).bind fun xs => g xs vs)).bind fun z => .ok (z.1, putOw e1 i z.2)
theorem meth_end {O0 : Addr → Prop} {r : V → List V → Hp → VK → Prop} {g : List PyData → List PyData → Option (PyData × List PyData)} (mw : MwD X.K r g) {i : Nat} {env : En} {σ : L2.St} {H : Hp} {Q : VK} (ok : Ok X.K O0 env σ H)
    (q : EndE (Cx.pm X W O0) env σ H (fun v env' H' => ∀ p, Rp X.K (Al O0 env' σ) H' v p → Q p H') (dMeth g i ds env)) : tBM X.K "list" r (tVar i) (tA (Cx.pm X W O0) (dArgs ds)) σ H Q := by
  obtain ⟨ds0, e0, q⟩ := EndE.of q
  obtain ⟨a0, ps0, s0, es0, hl0, _, _, _⟩ := ownAt_ok ok e0
  refine ⟨_, es0, .inl ⟨rfl, _, .inl (.inl hl0)⟩, env, ok, ?_⟩
  refine args_endG (f := fun vs e1 => (Out.of ((ownAt e1 i).bind fun xs => g xs vs)).bind fun z => .ok (z.1, putOw e1 i z.2)) q fun vs e1 H1 hv s1 q1 ps rps => ?_
  obtain ⟨z, e3, q3⟩ := EndE.of q1
  clear q1
  cases hoe : ownAt e1 i with
  | none => rw [hoe] at e3; cases e3
  | some xs =>
    rw [hoe] at e3
    obtain ⟨a1, qs, s3, es, hl, hr, ee, hm⟩ := ownAt_ok s1.ok hoe
    rw [es0] at es
    cases es
    refine mw _ H1 a0 qs ps xs vs z.1 z.2 Q hl hr rps e3 fun ps' p' r1 r2 => ?_
    have st := StpE.put s1.ok es0 hl ee hm r1
    exact q3 _ st _ (st.step.rp s1.ok r2)
theorem de_meth {r : V → List V → Hp → VK → Prop} {g : List PyData → List PyData → Option (PyData × List PyData)} {i : Nat} {name : Str} {id : String} {apos cpos : Pos} (mw : MwD X.K r g) (slot : Slot "list" name id) (hty : typeOf (.builtin id) = pure (.type "method_descriptor")) (hm : MtR X id r)
    (ho : PE X o (tVar i)) (he : DAs X W (e :: es) (dArgs ds))
    (hbase : attributeBase o name X.env (eval o X.env) = eval o X.env := by rfl)
    (hfew : ((backTo cpos (starEach (e :: es) X.env)).all (fun x => !x.1) && (backToKw cpos (keywordEach [] X.env)).all (fun x => x.1.isSome)
      && decide ((e :: es).length + ([] : List Keyword).length + (if ([] : List Keyword).isEmpty then 0 else 1) < 30)) = true := by rfl)
    (hline : (apos.endLine == cpos.line) = true := by rfl) (hs : starEach (e :: es) X.env = (false, eval e X.env) :: starEach es X.env := by rfl) (hplain : (backTo cpos (starEach es X.env)).any (·.1) = false := by rfl) :
    DE X W (.Call (.Attribute o name apos) (e :: es) [] cpos) (dMeth g i ds) := fun O0 =>
  PE.imp (pe_bm PySem.F.plainAttrs_list slot hty hm ho (he O0) hbase hfew hline hs hplain) fun σ H Q ⟨env, ok, q⟩ => meth_end mw ok q
end
end TL

namespace TL
open PySem PySem.Spec PyProof.Rows L2
variable [Tbl]
def ints? : List PyData → Option (List Int)
  | [] => some []
  | .int i :: r => (ints? r).map (i :: ·)
  | _ => none
def bools? : List PyData → Option (List Bool)
  | [] => some []
  | .bool b :: r => (bools? r).map (b :: ·)
  | _ => none
omit [Tbl] in
@[simp] theorem ints_map : ∀ ns : List Int, ints? (ns.map PyData.int) = some ns
  | [] => rfl
  | n :: ns => by simp [ints?, ints_map ns]
omit [Tbl] in
@[simp] theorem bools_map : ∀ ns : List Bool, bools? (ns.map PyData.bool) = some ns
  | [] => rfl
  | n :: ns => by simp [bools?, bools_map ns]
section
variable {X : Cx} {W : WX} {k : Nat} {e a b c o : Expr} {d da db : D} {es : List Expr} {ds : List D} {pos p : Pos} {x y : Str}
def pyRepT : PyData → PyData → Option PyData
  | .tuple ds, .int n => if ds ≠ [] ∧ 2 ≤ n ∧ n ≤ 1000 ∧ ds.length ≤ 1000 then some (.tuple (List.replicate n.toNat ds).flatten) else none
  | _, _ => none
omit [Tbl] in
theorem rps_rep {K : PySem.W.Frag} {O : Addr → Prop} {H : Hp} {ds : List PyData} {vs : List V} (h : Rps K O H ds vs) : ∀ n, Rps K O H (List.replicate n ds).flatten (List.replicate n vs).flatten
  | 0 => .nil
  | n + 1 => by
    rw [List.replicate_succ, List.replicate_succ, List.flatten_cons, List.flatten_cons]
    exact h.append (rps_rep h n)
theorem od_repT {K : PySem.W.Frag} : OpD K (rRepT K) pyRepT := fun O0 env σ H v w u p q Q ok rp rq e k => by
  unfold pyRepT at e
  split at e
  · split at e
    · rename_i hh
      cases e
      cases rq
      cases rp with
      | tup h1 h3 => exact ⟨_, _, _, rfl, rfl, h1, fun z => hh.1 (by subst z; cases h3; rfl), hh.2.1, hh.2.2.1, by rw [← h3.length]; exact hh.2.2.2, fun p hp => k _ _ (StpE.new ok hp) (Rp.newT hp (rps_rep h3 _))⟩
    · cases e
  · cases e
theorem de_repT (ha : DE X W a da) (hb : DE X W b db) : DE X W (.BinOp a .Mult b pos) (dOp pyRepT da db) := de_op op_repT od_repT ha hb
end
end TL
namespace TL
open PySem PySem.Spec PyProof.Rows L2
variable [Tbl]
theorem dss_never {X : Cx} {W : WX} {sts : List Stmt} : DSs X W sts (fun _ => .stuck) := fun O0 => ⟨fun pins s σ H D I h => by
  obtain ⟨env, ok, q⟩ := h
  exact q.elim⟩
end TL

namespace TL
open PySem PySem.Spec PyProof.Rows L2
variable [Tbl]
section
variable {X : Cx} {W : WX} {k : Nat} {tg e a b c o : Expr} {d da db : D} {fa fb : DL} {es : List Expr} {ds : List D} {pos p : Pos} {x y : Str}
omit [Tbl] in
theorem PI.or {t1 t2 : TI} (h1 : PI X tg e t1) (h2 : PI X tg e t2) : PI X tg e (fun σ H R => t1 σ H R ∨ t2 σ H R) := ⟨fun pins s σ H R I q => q.elim (fun q => h1.run pins s σ H R I q) fun q => h2.run pins s σ H R I q⟩
omit [Tbl] in
theorem it_cases {d : D} {env : En} : dIt seqOf d env = dIt itemsL d env ∨ dIt seqOf d env = dIt itemsT d env := by
  unfold dIt
  cases h : d env with
  | ok pr =>
    obtain ⟨v, e1⟩ := pr
    cases v <;> first | exact .inl rfl | exact .inr rfl
  | ex c fs e1 => exact .inl rfl
  | stuck => exact .inl rfl
theorem di_seq (h : DE X W e d) : DI X W tg e (dIt seqOf d) := fun O0 =>
  PI.imp (PI.or (di_list (tg := tg) h O0) (di_tup (tg := tg) h O0)) fun σ H R ⟨env, ok, q⟩ => by
    rcases it_cases (d := d) (env := env) with he | he
    · exact .inl ⟨env, ok, by rw [← he]; exact q⟩
    · exact .inr ⟨env, ok, by rw [← he]; exact q⟩
section
variable {K : PySem.W.Frag} {O0 : Addr → Prop} {env env1 env2 : En} {σ σ2 : L2.St} {H H1 H2 : Hp} {l : Addr} {xs : List PyData} {ps : List V}
theorem Fresh.keep {H0 : Hp} (f : Fresh K O0 H0 env σ H l xs ps) (s : Stp K (With O0 l) env σ H env2 σ2 H2) : Fresh K O0 H0 env2 σ2 H2 l xs ps where
  new := f.new
  ok := s.ok
  at' := s.keep l _ f.at' (fun z => f.ok.dis l z (.inr rfl)) nt_lst
  rps := s.rps f.ok f.rps
end
end
end TL

namespace TL
open PySem PySem.Spec PyProof.Rows L2
variable [Tbl]
section
variable {K : PySem.W.Frag} {O0 O1 : Addr → Prop} {env en : En} {σ : L2.St} {H H2 : Hp} {l : Addr} {xs : List PyData} {ps : List V} {i : Nat}
end
section
variable {X : Cx} {W : WX} {k : Nat}
section
variable {elt tg iter : Expr} {ifs : List Expr} {scope : Scope} {own : List (Str × Nat)} {pos : Pos} {g : DG} {t : DT} {d : D}
end
end
end TL

namespace TL
open PySem PySem.Spec PyProof.Rows L2
variable [Tbl]
def ItK (t : Bool) (h : Heap) (it a : Addr) (i : Nat) : Prop := if t = true then h.IsTupleIter it a i else h.IsListIter it a i
def RowK (t : Bool) (h : Heap) (a : Addr) (ws : Array Value) : Prop := if t = true then h.IsTuple a ws else h.IsList a ws
section
variable {prog : Program} {w : World} {A : Around} {t : Bool} {h h' : Heap} {it a : Addr} {i : Nat} {ws : Array Value}
omit [Tbl] in
theorem ItK.obj (x : ItK t h it a i) : ∃ o, h.get? it = some o ∧ ∀ v, o.data ≠ .cell v := by
  cases t
  · obtain ⟨o, e, _, d⟩ := (show h.IsListIter it a i from x)
    exact ⟨o, e, fun v z => by rw [d] at z; cases z⟩
  · obtain ⟨o, e, _, d⟩ := (show h.IsTupleIter it a i from x)
    exact ⟨o, e, fun v z => by rw [d] at z; cases z⟩
omit [Tbl] in
theorem RowK.lt (x : RowK t h a ws) : a < h.objs.size := by
  cases t
  · obtain ⟨o, e, _⟩ := (show h.IsList a ws from x)
    exact Heap.lt_size e
  · obtain ⟨o, e, _⟩ := (show h.IsTuple a ws from x)
    exact Heap.lt_size e
end
section
variable {P : Program} {w : World} {K : PySem.W.Frag} {tes : List Expr} {kk : Nat} {tpos : Pos} {a b z A1 A2 i1 i2 : Addr} {t u : Bool}
omit [Tbl] in
theorem in5 {p : Addr → Prop} (h1 : p z) (h2 : p A1) (h3 : p A2) (h4 : p i1) (h5 : p i2) : ∀ c ∈ [z, A1, A2, i1, i2], p c := fun c hc => by
  rcases List.mem_cons.mp hc with e | hc
  · subst e; exact h1
  rcases List.mem_cons.mp hc with e | hc
  · subst e; exact h2
  rcases List.mem_cons.mp hc with e | hc
  · subst e; exact h3
  rcases List.mem_cons.mp hc with e | hc
  · subst e; exact h4
  rcases List.mem_cons.mp hc with e | hc
  · subst e; exact h5
  · cases hc
def ZpAt (t u : Bool) (a b z A1 A2 i1 i2 : Addr) (i : Nat) (h : Heap) : Prop := IsZip h z A1 A2 .none ∧ IsTupOf2 h A1 (.ref i1) (.ref i2) ∧ (∃ p q, IsTupOf2 h A2 p q) ∧ ItK t h i1 a i ∧ ItK u h i2 b i
omit [Tbl] in
theorem ZpAt.objs {i : Nat} {h : Heap} (st : ZpAt t u a b z A1 A2 i1 i2 i h) : ∀ c ∈ [z, A1, A2, i1, i2], ∃ o, h.get? c = some o ∧ ∀ v, o.data ≠ .cell v := by
  obtain ⟨hz, h1, ⟨p, q, h2⟩, h3, h4⟩ := st
  exact in5 ⟨_, hz, fun v e => nomatch e⟩ ⟨_, h1, fun v e => nomatch e⟩ ⟨_, h2, fun v e => nomatch e⟩ h3.obj h4.obj
end
end TL

namespace TL
open PySem PySem.Spec PyProof.Rows L2
variable [Tbl]
section
variable {X : Cx} {W : WX} {k : Nat} {a b : Expr} {da db : D} {tes : List Expr} {kk : Nat} {tpos pos p : Pos} {ta : TA}
def rowsOf : PyData → Option (List PyData)
  | .list ds => some ds
  | .tuple ds => some ds
  | _ => none
section
variable {K : PySem.W.Frag} {O : Addr → Prop} {H : Hp}
end
end
end TL

namespace TL
open PySem PySem.Spec PyProof.Rows L2
variable [Tbl]
section
variable {X : Cx} {W : WX} {k : Nat} {a b : Expr} {da db : D} {pos p : Pos}
end
end TL

namespace TL
open PySem PySem.Spec PyProof.Rows L2
variable [Tbl]
section
variable {X : Cx} {W : WX} {k : Nat} {a : Expr} {da : D} {tes : List Expr} {kk : Nat} {tpos pos p : Pos}
end
end TL

namespace TL
open PySem PySem.Spec PyProof.Rows L2
variable [Tbl]
section
variable {X : Cx} {W : WX} {k : Nat} {a b : Expr} {da db : D} {pos : Pos}
end
end TL

namespace TL
open PySem PySem.Spec PyProof.Rows L2
variable [Tbl]
def nnB : PyData → Bool
  | .none => false
  | _ => true
def ordB (v w : PyData) : Bool := SeqAt.shaped v && (SeqAt.shaped w && (PySem.W.alike v w && nnB v))
def pyLtD (v w : PyData) : Option PyData := if ordB v w = true then some (.bool (PySem.W.dataLt v w)) else none
def pyLeD (v w : PyData) : Option PyData := if ordB v w = true then some (.bool (!PySem.W.dataLt w v)) else none
def pyGtD (v w : PyData) : Option PyData := if ordB v w = true then some (.bool (PySem.W.dataLt w v)) else none
def pyGeD (v w : PyData) : Option PyData := if ordB v w = true then some (.bool (!PySem.W.dataLt v w)) else none
section
variable {X : Cx} {W : WX} {k : Nat} {a b : Expr} {da db : D} {pos : Pos}
end
omit [Tbl] in
theorem shp_pair0 (a b : Int) : SeqAt.shaped (.tuple [.int a, .int b]) = true := by
  simp [SeqAt.shaped, PyData.canLay0, PyData.canLayAll0, PyData.depth, PyData.depthAll]
  try decide +kernel
omit [Tbl] in
theorem alike_pair (a b c d : Int) : PySem.W.alike (.tuple [.int a, .int b]) (.tuple [.int c, .int d]) = true := by
  simp [PySem.W.alike, PySem.W.alikeAll]
omit [Tbl] in
theorem dataLt_pair (a b c d : Int) : PySem.W.dataLt (.tuple [.int a, .int b]) (.tuple [.int c, .int d]) = decide (a < c ∨ a = c ∧ b < d) := by
  have e : ∀ xs ys, PySem.W.dataLt (.tuple xs) (.tuple ys) = PyProof.Rows.lexLt PyProof.Rows.itemOrd (PySem.W.keyToksAll xs) (PySem.W.keyToksAll ys) := fun xs ys => by
    unfold PySem.W.dataLt
    rw [PySem.W.keyToks, PySem.W.keyToks]
  have al : ∀ x y : Int, PySem.W.alike (.int x) (.int y) = true := fun x y => by simp [PySem.W.alike]
  rw [e]
  by_cases h : a = c
  · subst h
    rw [PySem.W.dataLt_all_yes (al _ _) (by simp [PyData.eqv])]
    by_cases h2 : b = d
    · subst h2
      rw [PySem.W.dataLt_all_yes (al _ _) (by simp [PyData.eqv])]
      have : ¬ (a < a ∨ a = a ∧ b < b) := by omega
      rw [decide_eq_false this]
      exact PyProof.Rows.lex_irrefl _
    · rw [PySem.W.dataLt_all_no (al _ _) (by simpa [PyData.eqv] using h2), PySem.W.dataLt_int]
      exact decide_eq_decide.mpr (by omega)
  · rw [PySem.W.dataLt_all_no (al _ _) (by simpa [PyData.eqv] using h), PySem.W.dataLt_int]
    exact decide_eq_decide.mpr (by omega)
omit [Tbl] in
theorem ord_pair (a b c d : Int) : ordB (.tuple [.int a, .int b]) (.tuple [.int c, .int d]) = true := by
  unfold ordB
  rw [shp_pair0, shp_pair0, alike_pair]
  rfl
end TL

namespace TL
open PySem PySem.Spec PyProof.Rows L2
variable [Tbl]
section
variable {X : Cx} {W : WX} {k : Nat} {a b c : Expr} {da db dc : D} {tg : Expr} {pos p : Pos}
end
end TL

namespace TL
open PySem PySem.Spec PyProof.Rows L2
variable [Tbl]
section
variable {X : Cx} {W : WX} {k : Nat} {e : Expr} {d : D} {p1 p2 p3 pos : Pos}
variable {a b : Expr} {da db : D} {p : Pos}
end
end TL

namespace TL
open PySem PySem.Spec PyProof.Rows L2
variable [Tbl]
section
variable {X : Cx} {W : WX} {k : Nat} {e : Expr} {d : D} {p p2 pos kp : Pos} {j : Nat}
end
end TL

namespace TL
open PySem PySem.Spec PyProof.Rows L2
section
variable {P : Program} {w : World} {K : PySem.W.Frag} {mg : Str → Option Value} {base : Heap} {A : Around} {outer : List Env} {s : Shared} {H : Hp}
end
end TL

namespace TL
open PySem PySem.Spec PyProof.Rows L2
theorem vals_two {a b : Int} {us : List Value} (h : Vals [V.int a, V.int b] us) : ∃ t u, us = [.int a t, .int b u] := by
  obtain ⟨u1, u2, rfl, ri, rj⟩ := vals2 h
  obtain ⟨t1, rfl⟩ := ri
  obtain ⟨t2, rfl⟩ := rj
  exact ⟨t1, t2, rfl⟩
section
variable {X : Cx} {pins : List (Addr × Obj)} {σ : L2.St} {H : Hp} {s : Shared}
end
end TL

namespace TL
open PySem PySem.Spec PyProof.Rows L2
section
variable {X : Cx} {pins : List (Addr × Obj)} {σ : L2.St} {H : Hp} {s : Shared}
end
section
variable [Tbl]
variable {K : PySem.W.Frag} {O0 : Addr → Prop} {env : En} {σ : L2.St} {H H1 : Hp} {P c' : Addr} {q : Str}
end
section
variable [Tbl]
variable {X : Cx} {W : WX} {k : Nat} {e : Expr} {d : D} {p pos kp lpos : Pos} {a : Str} {params : Arguments} {q1 q2 c1 c2 r1 r2 : Pos} {j1 j2 x1 : Nat} {bpos : Pos} {scope : Scope}
end
end TL

namespace TL
open PySem PySem.Spec PyProof.Rows L2
section
variable [Tbl]
variable {X : Cx} {W : WX} {k : Nat} {o e : Expr} {d b : D} {pos apos : Pos}
end
section
variable [Tbl]
variable {X : Cx} {W : WX} {a : Expr}
end
end TL

namespace TL
open PySem PySem.Spec PySem.W PyProof.Rows L2
structure Mk where
  x : Str
  c : Addr
  P : Addr
  d : DefRec
abbrev tblOf (ms : List Mk) : Tbl := ⟨ms.map fun m => (m.P, m.x ++ ".<locals>." ++ "<lambda>")⟩
theorem walk_t {l : PySem.W.OpenLaw} {n k : Nat} {q : Program} {ls : List Str} {XP : (Str → Option Value) → Heap → Prop} {YP : World → Heap → Prop} {d : DefRec} {KK : Params → PySem.W.Frag} {CX : World → CXT} {x : Str}
    (most : l.most = some n) (small : n ≤ sizeLine) (n63 : n = 63) (nodef : d.params.defaults = []) (room : Room k callerA) (inK : ∀ (w : World) (h : Heap), YP w h → (KK w.params).In h)
    (law : ∀ (w : World) (mg : Str → Option Value) (fa : Addr) (h : Heap), (KK w.params).In h → XP mg h → h.Ns mainGlobals mg → mg d.name = some (.ref fa) →
      ∃ (ms : List Mk) (fd : FuncData), (∀ m ∈ ms, tabIn (KK w.params) m.x = some (m.c, m.P) ∧ (KK w.params).lookup m.P = none ∧ (recsOf q).find? (fun e => e.name == m.x) = some m.d) ∧ (∀ (s : Shared) (u : Value), BindsTo s fd ⟨[u], []⟩ [(x, u)]) ∧
        ∀ base : Heap, (KK w.params).In base → base.Ns mainGlobals mg → (∀ m ∈ ms, LamX.TabB base mg m.c m.P) → FnG l.prog w (KK w.params) mg base (CX w) k fa fd [x] (@spLaw (tblOf ms) (KK w.params)))
    (never : ∀ (w : World) (H : Hp) (s : Shared) (e : Value) (s' : Shared), CX w [] H s (fun _ _ _ => False) e s' → False) :
    PySem.W.WalkO q ls XP YP l.row.toRowW d [] (fun f vs => PySem.call f vs) := by
  refine Att.attach_callB most nodef fun w s0 s1 mg mb fa o pm cd doc a vs ns gr y _ _ _ nm obj hints len _ gens => ?_
  have kx := inK w _ y
  obtain ⟨ms, fd, told, binds, ok⟩ := law w mg fa _ kx gr.X gr.T.g nm
  have at' : ∀ p ∈ ms.map (fun m => (m.c, m.P)), ∃ m ∈ ms, p = (m.c, m.P) ∧ CodeHd s1.heap m.c m.P ∧ s1.heap.get? m.P = some { cls := .none, data := .fields #[] } ∧ (KK w.params).lookup m.P = none := fun p hp => by
    obtain ⟨m, hm, rfl⟩ := List.mem_map.mp hp
    obtain ⟨t1, t2, t3⟩ := told m hm
    obtain ⟨u1, u2⟩ := tab_of gr.T kx t3 t1
    exact ⟨m, hm, rfl, u1, u2, t2⟩
  refine law_callTG (cs := ms.map fun m => (m.c, m.P)) kx gr.T.g gr.T.b gr.T.builtins gr.T.nolimit gens (fun p hp => ?_) (fun p hp => ?_) (fun p hp => ?_) gr.T.bmain obj hints (Nat.le_trans len small) room (fun base b1 b2 b3 => ok base b1 b2 fun m hm => b3 (m.c, m.P) (List.mem_map.mpr ⟨m, hm, rfl⟩)) (fun s u => binds s u) (fun H hH hS => ?_) fun H e s' => never w H s1 e s'
  · obtain ⟨m, _, rfl, _, e, _⟩ := at' p hp
    exact e
  · obtain ⟨m, _, rfl, _, _, e⟩ := at' p hp
    exact e
  · obtain ⟨m, _, rfl, e, _⟩ := at' p hp
    exact e
  · refine ⟨a, ns, rfl, fun p hp => ?_, hS, by rw [← n63]; exact len, fun _ => rfl⟩
    obtain ⟨m, hm, rfl⟩ := List.mem_map.mp hp
    exact LamX.TabS.nil (hH (m.c, m.P) (List.mem_map.mpr ⟨m, hm, rfl⟩))
end TL
namespace TL
end TL

namespace TL
open PySem PySem.Spec PyProof.Rows L2
set_option maxRecDepth 8000 in
theorem ext_tup (l : Addr) (xs : Array Value) (n : Nat) (b : Addr) (ys : Array Value) (n2 : Nat) (dd : Option Addr) (sl : Array (Option Value)) (short : ¬(!xs.isEmpty && Builtin.List.listTooLong (xs.size + ys.size)) = true) (small : xs.size ≤ sizeLine) (both : xs.size + ys.size ≤ sizeLine + 1) :
    Meets (Builtin.«list.extend» ⟨[.ref l, .ref b], []⟩) fun _ R s =>
      s.heap.get? l = some { cls := .type "list", dict := none, data := .seq xs n, slots := #[] } ∧ s.heap.get? b = some { cls := .type "tuple", dict := dd, data := .seq ys n2, slots := sl } ∧ R (.ok (.ret Value.none)) { s with heap := s.heap.update l (Obj.mapSeq fun x => x ++ ys), toks := s.toks } :=
  .of_wp fun prog w A R s h => by
    obtain ⟨hp, g, d, tk, os⟩ := s
    obtain ⟨hl, hb, h⟩ := h
    have i1 := AutoSeq1.idx_int
    have i2 := AutoSeq1.sub_tuple_tuple
    have i3 := AutoSeq1.sub_list_list
    have i4 := AutoSeq1.sub_tuple_list
    have i5 := AutoSeq1.sub_list_tuple
    have z : (xs ++ ys).size ≤ sizeLine + 1 := by
      rw [Array.size_append]
      exact both
    wp_walk using (wpAny_updateSeq hl rfl (hz := small) (_hz' := z)), AutoSeq1.wpAny_loadPart' hl, AutoSeq1.wpAny_loadPart' hb
    exact ⟨_, rfl, h⟩
section
variable {prog : Program} {w : World} {A : Around} {E : Value → Shared → Prop} {s : Shared}
end
variable [Tbl]
section
variable {P : Program} {w : World} {K : PySem.W.Frag} {tes : List Expr} {kk : Nat} {tpos : Pos} {a e it : Addr} {t : Bool}
def EnAt (t : Bool) (a e it : Addr) (i : Nat) (h : Heap) : Prop := (∃ old, IsEnum h e it ((i : Nat) : Int) old) ∧ ItK t h it a i
omit [Tbl] in
theorem in2 {p : Addr → Prop} (h1 : p e) (h2 : p it) : ∀ c ∈ [e, it], p c := fun c hc => by
  rcases List.mem_cons.mp hc with z | hc
  · subst z; exact h1
  rcases List.mem_cons.mp hc with z | hc
  · subst z; exact h2
  · cases hc
omit [Tbl] in
theorem EnAt.objs {i : Nat} {h : Heap} (st : EnAt t a e it i h) : ∀ c ∈ [e, it], ∃ o, h.get? c = some o ∧ ∀ v, o.data ≠ .cell v := by
  obtain ⟨⟨old, he⟩, h3⟩ := st
  exact in2 ⟨_, he, fun v z => nomatch z⟩ h3.obj
end
section
variable {X : Cx} {W : WX} {k : Nat} {a : Expr} {da : D} {tes : List Expr} {kk : Nat} {tpos pos p : Pos} {ta : TA}
end
def rExtK (K : PySem.W.Frag) : V → List V → Hp → VK → Prop := fun x vs H Q => ∃ l b xs zs, x = .ref l ∧ vs = [.ref b] ∧ H l = some (.lst xs) ∧ (H b = some (.lst zs) ∨ SqT K H b zs) ∧ xs.length + zs.length ≤ sizeLine ∧ Q .non (upd H l (.lst (xs ++ zs)))
omit [Tbl] in
theorem mt_extK {X : Cx} : MtM X "list.extend" (rExtK X.K) := by
  rintro pins s σ H x vs v us Q I rx rv ⟨l, b, xs, zs, rfl, rfl, hl, hb, hz, q⟩
  rcases hb with hb | hb
  · exact mt_extend _ _ _ _ _ _ _ _ _ I rx rv ⟨l, b, xs, zs, rfl, rfl, hl, hb, hz, q⟩
  · cases rx
    obtain ⟨u, rfl, ru⟩ := rv.one
    cases ru
    obtain ⟨_, its, n, r, ll, e⟩ := I.lstM hl
    obtain ⟨its2, r2, ⟨⟨c, dd, dt, sl⟩, e2, hc, n2, hd⟩, _⟩ := I.tuple hb
    have l2 := r2.length
    replace hc : c = .type "tuple" := hc
    replace hd : dt = .seq its2.toArray n2 := hd
    subst hc hd
    have few : its.toArray.size + its2.toArray.size ≤ sizeLine := by
      simp only [List.size_toArray]
      omega
    have short : ¬ (!its.toArray.isEmpty && Builtin.List.listTooLong (its.toArray.size + its2.toArray.size)) = true := by
      rw [notLongL few, Bool.and_false]
      exact Bool.false_ne_true
    refine call_meets F.slot_list_extend ⟨_, e, rfl⟩ F.entry_list_extend (F.args_list_extend_2 _ _) (ext_tup l its.toArray n b its2.toArray n2 dd sl short (by omega) (by omega)) ⟨e, e2, .non, _, I.lset (its' := its ++ its2) hl e (by simp) (r.append r2) ?_, rfl, q⟩
    rw [List.length_append]
    omega
def gExtK : List PyData → List PyData → Option (PyData × List PyData)
  | xs, [d] => (rowsOf d).bind fun zs => if xs.length + zs.length ≤ sizeLine then some (.none, xs ++ zs) else none
  | _, _ => none
omit [Tbl] in
theorem mw_extK {K : PySem.W.Frag} : MwD K (rExtK K) gExtK := fun O H a ps qs xs vs u xs' Q hl hr rps e k => by
  unfold gExtK at e
  split at e
  · rename_i d
    obtain ⟨zs, hz, e⟩ := Option.bind_eq_some_iff.mp e
    split at e
    · rename_i few
      cases e
      cases rps with
      | cons h t =>
        cases t
        cases h with
        | lst h1 h2 h3 =>
          cases hz
          exact ⟨_, _, _, _, rfl, rfl, hl, .inl h1, by rw [← hr.length, ← h3.length]; exact few, k _ _ (hr.append h3) .non⟩
        | tup h1 h3 =>
          cases hz
          exact ⟨_, _, _, _, rfl, rfl, hl, .inr h1, by rw [← hr.length, ← h3.length]; exact few, k _ _ (hr.append h3) .non⟩
        | _ => cases hz
    · cases e
  · cases e
section
variable {X : Cx} {W : WX} {o e : Expr} {d : D}
theorem de_extK {i : Nat} {apos cpos : Pos} (ho : PE X o (tVar i)) (he : DAs X W [e] (dArgs [d]))
    (hbase : attributeBase o "extend" X.env (eval o X.env) = eval o X.env := by rfl)
    (hfew : ((backTo cpos (starEach (e :: []) X.env)).all (fun x => !x.1) && (backToKw cpos (keywordEach [] X.env)).all (fun x => x.1.isSome)
      && decide ((e :: []).length + ([] : List Keyword).length + (if ([] : List Keyword).isEmpty then 0 else 1) < 30)) = true := by rfl)
    (hline : (apos.endLine == cpos.line) = true := by rfl) (hs : starEach (e :: []) X.env = (false, eval e X.env) :: starEach [] X.env := by rfl) (hplain : (backTo cpos (starEach [] X.env)).any (·.1) = false := by rfl) :
    DE X W (.Call (.Attribute o "extend" apos) [e] [] cpos) (dMeth gExtK i [d]) :=
  de_meth mw_extK PySem.F.slot_list_extend PySem.F.type_list_extend mt_extK ho he hbase hfew hline hs hplain
end
end TL
namespace TL
open PySem L2
end TL

namespace TL
open PySem PySem.Spec PySem.W PyProof.Rows L2
end TL

namespace TL
open PySem PySem.Spec PyProof.Rows L2
variable [Tbl]
section
variable {X : Cx} {W : WX} {a b c : Expr} {da db : D} {la lb : DL} {t : DT} {pos : Pos}
end
end TL

namespace TL
open PySem PySem.Spec PyProof.Rows L2
variable [Tbl]
section
variable {X : Cx} {W : WX} {a : Expr} {da : D} {p pos : Pos}
end
end TL

namespace TL
open PySem PySem.Spec PyProof.Rows L2
variable [Tbl]
section
variable {X : Cx} {W : WX} {k : Nat}
section
variable {elt tg iter : Expr} {ifs : List Expr} {scope : Scope} {own : List (Str × Nat)} {pos ps1 ps2 tpos : Pos} {g : DG} {t : DT} {d : D} {tes : List Expr} {kk : Nat}
end
end
end TL

namespace TL
open PySem PySem.Spec PyProof.Rows L2
variable [Tbl]
section
variable {X : Cx} {W : WX} {a : Expr} {l h : DOp} {lo hi : Option Expr} {pos p2 : Pos}
end
end TL

namespace TL
open PySem PySem.Spec PyProof.Rows L2
def PairAt (h : Heap) (t : Addr) (i j : Int) : Prop := ∃ (t1 t2 : Tok), h.IsTuple t #[.int i t1, .int j t2]
theorem PairAt.keeps {h h' : Heap} {t : Addr} {i j : Int} (x : PairAt h t i j) (k : ∀ b o, h.get? b = some o → h'.get? b = some o) : PairAt h' t i j := by
  obtain ⟨t1, t2, y⟩ := x
  exact ⟨t1, t2, y.at fun o e => k _ _ e⟩
section
variable {P : Program} {w : World} {K : PySem.W.Frag} {mg : Str → Option Value} {base : Heap} {A : Around} {outer : List Env} {s : Shared} {H : Hp}
end
section
open PySem.W
variable {prog : Program} {w : World} {A : Around} {E : Value → Shared → Prop} {s : Shared}
theorem RowK.data {t : Bool} {h : Heap} {a : Addr} {ws : List Value} (x : RowK t h a ws.toArray) : ∃ (T : String) (o : Obj) (n : Nat), (T = "list" ∨ T = "tuple") ∧ h.get? a = some o ∧ o.cls = .type T ∧ o.data = .seq ws.toArray n := by
  cases t
  · obtain ⟨o, e, c, n, d⟩ := (show h.IsList a ws.toArray from x)
    exact ⟨"list", o, n, .inl rfl, e, c, d⟩
  · obtain ⟨o, e, c, n, d⟩ := (show h.IsTuple a ws.toArray from x)
    exact ⟨"tuple", o, n, .inr rfl, e, c, d⟩
end
section
variable {X : Cx} {pins : List (Addr × Obj)} {σ : L2.St} {H : Hp} {s : Shared}
end
section
variable [Tbl]
variable {X : Cx} {W : WX} {k : Nat} {e : Expr} {d : D} {p pos kp lpos : Pos} {a : Str} {params : Arguments} {q1 q2 c1 c2 r1 r2 : Pos} {j1 j2 x1 : Nat} {bpos : Pos} {scope : Scope}
end
end TL

namespace TL
open PySem PySem.Spec PyProof.Rows L2
section
variable {X : Cx} {W : WX} [Tbl]
end
end TL

namespace TL
open PySem PySem.Spec PyProof.Rows L2
section
variable {prog : Program} {w : World} {A : Around} {E : Value → Shared → Prop} {s : Shared}
end
section
variable {X : Cx} {k : Nat} {e : Expr} {p1 p2 p3 pos : Pos}
end
section
variable {X : Cx} {W : WX} {k : Nat} {e : Expr} {d : D} {p1 p2 p3 pos : Pos}
end
end TL

namespace TL
open PySem PySem.Spec PyProof.Rows L2
variable [Tbl]
section
variable {X : Cx} {a b : Expr} {h : Hd} {f g : DX} {pos : Pos}
end
end TL

namespace TL
open PySem PySem.Spec PyProof.Rows L2
section
variable {X : Cx} {pins : List (Addr × Obj)} {r : L2.St} {H : Hp} {a : Addr} {B : Heap} {cl : Value} {dd : Option Addr} {pI p : Shared}
end

section
variable [Tbl] {X : Cx} {W : WX} {k : Nat}
end
end TL

namespace TL
open PySem PySem.Spec PyProof.Rows L2
variable [Tbl]
section
variable {X : Cx} {W : WX} {k : Nat} {a : Expr} {da : D} {p pos : Pos}
end
end TL

namespace TL
open PySem PySem.Spec PyProof.Rows L2
variable [Tbl]
section
variable {X : Cx} {W : WX} {b : Expr} {db : D} {x : Str} {pos p : Pos} {tb : List (Str × Str)}
end
end TL

namespace TL
open PySem PySem.Spec PyProof.Rows L2
variable [Tbl]
section
variable {X : Cx} {CX : CXT} {n : Nat} {f : Addr} {fd : FuncData} {ps : List Str} {sp : Sp} {E : L2.St → XK} {x : Str} {p pos : Pos} {e : Expr} {es : List Expr} {t : TA} {ds : List Value} {dvs : List V}
end
section
variable {X : Cx} {W : WX} {k j n : Nat} {e : Expr} {es : List Expr} {ds : List D} {cs : List PyData} {pos p : Pos} {x : Str} {F : Fn}
end
end TL

namespace TL
open PySem PySem.Spec PyProof.Rows L2
variable [Tbl]
section
variable {X : Cx} {W : WX} {k : Nat} {a b : Expr} {da db : D} {p pos p2 pos2 : Pos}
end
end TL

namespace TL
open PySem PySem.Spec PyProof.Rows L2
variable [Tbl]
section
variable {X : Cx} {W : WX} {k j n : Nat} {kds : List D} {pos p : Pos} {x : Str} {F : Fn} {ks : List Str} {perm : List Nat} {kws : List Keyword}
end
end TL

namespace TL
open PySem PySem.Spec PyProof.Rows L2
section
variable {X : Cx} {pins : List (Addr × Obj)} {σ : L2.St} {H : Hp} {s : Shared}
end
section
variable {X : Cx} {pins : List (Addr × Obj)} {σ : L2.St} {H : Hp} {s : Shared}
end
inductive OutV where
  | ok (v : PyData)
  | ex (c : Str) (fs : List (Str × PyData))
  | stuck
abbrev FnV := OutV → OutF
section
variable [Tbl] {K : PySem.W.Frag} {O0 O1 : Addr → Prop} {env e1 : En} {σ τ : L2.St} {H H1 H2 : Hp} {n : Nat}
end
section
variable [Tbl] {X : Cx} {W : WX} {k : Nat} {pos p1 p2 p3 p4 p5 : Pos} {a : Str}
end
section
variable [Tbl] {P : Program} {w : World} {K : PySem.W.Frag} {mg : Str → Option Value} {base : Heap}
end
section
variable [Tbl] {X : Cx} {W : WX} {k m j : Nat} {x : Str} {F : FnV} {params : Arguments} {body : Expr} {scope : Scope} {d : D} {p lpos pos : Pos}
end
end TL

namespace TL
open PySem PySem.Spec PyProof.Rows L2
variable [Tbl]
section
variable {X : Cx} {h : Hd} {a : Expr} {f : DX} {p pos : Pos}
end
end TL

namespace TL
open PySem PySem.Spec PyProof.Rows L2
variable [Tbl]
section
variable {X : Cx} {W : WX} {a b : Expr} {da db : D} {pos : Pos}
end
end TL

namespace TL
open PySem PySem.Spec PyProof.Rows L2
variable [Tbl]
theorem Stp.ext {K : PySem.W.Frag} {O0 : Addr → Prop} {env : En} {σ σ' : L2.St} {H H' : Hp} (ok : Ok K O0 env σ H) (hl : σ'.length = σ.length) (hs : ∀ (i : Nat) (s : Sl), env[i]? = some (some s) → σ'[i]? = σ[i]?) (hH : ∀ a o, H a = some o → H' a = some o) : Stp K O0 env σ H env σ' H' := by
  have le : ∀ a, Own env σ' a → Own env σ a := fun a ⟨i, s, e, m, f⟩ => ⟨i, s, e, m, by rw [← hs i s e]; exact f⟩
  have ge : ∀ a, Own env σ a → Own env σ' a := fun a ⟨i, s, e, m, f⟩ => ⟨i, s, e, m, by rw [hs i s e]; exact f⟩
  have g : Goes K (Al O0 env σ) H (Al O0 env σ') H' := ⟨fun c xs h n => ⟨hH _ _ h, fun z => n (z.elim .inl fun z => .inr (le c z))⟩, fun c xs h => by
    rcases h with (h | ⟨o, h⟩) | h
    · exact .inl (.inl (hH _ _ h))
    · exact .inl (.inr ⟨o, hH _ _ h⟩)
    · exact .inr h, fun c h => h.elim (fun ⟨k, h⟩ => .inl ⟨k, hH _ _ h⟩) fun ⟨k, h, d⟩ => .inr ⟨k, hH _ _ h, d⟩⟩
  refine ⟨⟨by rw [hl]; exact ok.len, fun i s e => ?_, fun i j s t a e m e2 m2 f f2 => ok.inj i j s t a e m e2 m2 (by rw [← hs i s e]; exact f) (by rw [← hs j t e2]; exact f2), fun a h => ?_, fun a h => ok.dis a (le a h), ok.tabs fun a o h _ => hH a o h⟩, fun a o h _ _ => hH a o h, fun a h z => ?_, fun a h => .inl (le a h), fun i ds e => ⟨⟨ds, e⟩, hs i _ e⟩⟩
  · obtain ⟨v, ev, r⟩ := ok.val i s e
    exact ⟨v, by rw [hs i s e]; exact ev, RS.goes g (fun a xs h => hH a _ h) (fun a ns h => by
      rcases h with ⟨o, h⟩ | h
      · exact .inl ⟨o, hH _ _ h⟩
      · exact .inr h) r⟩
  · obtain ⟨xs, e⟩ := ok.lst a h
    exact ⟨xs, hH _ _ e⟩
  · cases q : H a with
    | none => exact h q
    | some o => rw [hH a o q] at z; cases z

section
variable {X : Cx} {W : WX} {k : Nat} {st1 st2 st3 : Stmt}
end
end TL

namespace TL
open PySem PySem.Spec PyProof.Rows L2
variable [Tbl]
section
variable {X : Cx} {W : WX} {k : Nat} {a : Expr} {da : D} {p pos : Pos}
end
end TL

namespace ZpL
open PySem PySem.Spec PySem.W PyProof.Rows
structure ZSt (h : Heap) (z TI TO i1 i2 l1 l2 : Addr) (xs ys : Array Value) (S : Addr) (k : Nat) : Prop where
  ti : IsPair h TI (.ref i1) (.ref i2)
  h1 : h.IsListIter i1 l1 k
  h2 : h.IsListIter i2 l2 k
  l1' : h.IsList l1 xs
  l2' : h.IsList l2 ys
  zz : (IsZip h z TI TO .none ∧ ∃ a b, IsPair h TO a b) ∨ ∃ T f oT, IsZipHeld h z TI TO T f ∧ h.get? T = some oT ∧ T ≠ z ∧ T ≠ i1 ∧ T ≠ i2 ∧ T ≠ S
theorem ZSt.keep {h h' : Heap} {z TI TO i1 i2 l1 l2 : Addr} {xs ys : Array Value} {S : Addr} {k : Nat} (x : ZSt h z TI TO i1 i2 l1 l2 xs ys S k) (hk : ∀ b o, b ≠ S → h.get? b = some o → h'.get? b = some o) (n : TI ≠ S ∧ i1 ≠ S ∧ i2 ≠ S ∧ l1 ≠ S ∧ l2 ≠ S ∧ z ≠ S ∧ TO ≠ S) : ZSt h' z TI TO i1 i2 l1 l2 xs ys S k := by
  obtain ⟨n1, n2, n3, n4, n5, n6, n7⟩ := n
  refine ⟨hk _ _ n1 x.ti, x.h1.at fun o e => hk _ o n2 e, x.h2.at fun o e => hk _ o n3 e, x.l1'.at fun o e => hk _ o n4 e, x.l2'.at fun o e => hk _ o n5 e, ?_⟩
  rcases x.zz with ⟨a, b, c, d⟩ | ⟨T, f, oT, a, b, r1, r2, r3, r4⟩
  · exact .inl ⟨hk _ _ n6 a, b, c, hk _ _ n7 d⟩
  · exact .inr ⟨T, f, oT, hk _ _ n6 a, hk _ _ r4 b, r1, r2, r3, r4⟩
section
variable {prog : Program} {w : World} {A : Around} {E : Value → Shared → Prop} {s : Shared} {z TI TO i1 i2 l1 l2 S : Addr} {xs ys : Array Value} {k : Nat}
end
structure ZG (xs ys : Array Value) (lo : Nat) (h : Heap) (as : List Addr) : Prop where
  rise : as.Pairwise (· < ·)
  above : ∀ a ∈ as, lo ≤ a
  pairs : ∀ (j : Nat) (a : Addr), as[j]? = some a → ∃ x y, xs[j]? = some x ∧ ys[j]? = some y ∧ IsPair h a x y
theorem ZG.there {xs ys : Array Value} {lo : Nat} {h : Heap} {as : List Addr} (g : ZG xs ys lo h as) {a : Addr} (ha : a ∈ as) : a < h.objs.size := by
  obtain ⟨j, hj⟩ := List.mem_iff_getElem?.mp ha
  obtain ⟨_, _, _, _, e⟩ := g.pairs j a hj
  exact Heap.lt_size e
section
variable {prog : Program} {w : World} {A : Around} {s : Shared} {R : Result → Shared → Prop} {z TI TO i1 i2 l1 l2 S : Addr} {xs ys : Array Value} {n lo : Nat}
end
section
variable {prog : Program} {w : World} {A : Around} {E : Value → Shared → Prop} {s : Shared} {R : Result → Shared → Prop} {z TI TO i1 i2 l1 l2 : Addr} {xs ys : Array Value} {n : Nat}
end
end ZpL

namespace ZpL
open PySem PySem.Spec PyProof.Rows L2
section
variable {X : Cx} {e e2 : Expr} {ta : TA} {p p2 pos pos2 : Pos}
end
end ZpL

namespace TL
open PySem PySem.Spec PyProof.Rows L2
variable [Tbl]
section
variable {X : Cx} {W : WX} {k : Nat} {a b : Expr} {da db : D} {p p2 pos pos2 : Pos}
end
end TL

namespace TL
open PySem PySem.Spec PyProof.Rows L2
variable [Tbl]
section
variable {X : Cx} {W : WX} {k : Nat} {a b c : Expr} {ds : List D} {p pos : Pos}
end
end TL

namespace TL
open PySem PySem.Spec PyProof.Rows L2
def clsD (p : Addr) : Heap → Prop := fun g => ∃ o, g.get? p = some o ∧ o.cls = .type "dict"
def rDict1 (K : PySem.W.Frag) : List V → Hp → VK → Prop := fun xs H Q => ∃ (a b c : Addr) (i j : Int) (v : V), xs = [.ref a] ∧ SqL K H a [.ref b] ∧ SqT K H b [.ref c, v] ∧ SqT K H c [.int i, .int j] ∧ ∀ p, H p = none → Q (.ref p) (upd H p (.ext (clsD p)))
section
variable {X : Cx}
theorem keyed_cls {P : Program} {w : World} {h : Heap} {d : Addr} {kvs : List (NestedKey × Value)} (x : h.DictKeyed (nestedKind P w) d kvs) : clsD d h := by
  obtain ⟨xs, ⟨o, es, ep, ho, hc, _⟩, _⟩ := x
  exact ⟨o, ho, hc.1⟩
theorem call_dict1 (hcalm : X.calm = true) (hu : X.A.units + 40 < cLine) : CallR X (.type "dict") (rDict1 X.K) := by
  intro pins s σ H xs us Q I r q
  obtain ⟨a, b, c, i, j, v, ex, hq, hp, hk, q⟩ := q
  subst ex
  obtain ⟨u, eu, rx⟩ := vals1 r
  subst eu
  cases rx
  obtain ⟨its, rv, pl, hz⟩ := I.list hq
  obtain ⟨u1, e1, r1⟩ := vals1 rv
  subst e1
  cases r1
  obtain ⟨its2, rv2, ht, _⟩ := I.tuple hp
  obtain ⟨u2, u3, e2, r2, r3⟩ := vals2 rv2
  subst e2
  cases r2
  obtain ⟨its3, rv3, hk', _⟩ := I.tuple hk
  obtain ⟨t1, t2, e3⟩ := vals_two rv3
  subst e3
  obtain ⟨oc, hoc, hcc, nc, hdc⟩ := hk'
  have key : (nestedKind X.prog X.w).is s.heap (.tup [.num i, .num j]) c := ⟨.tup hoc hcc hdc (.cons (.int i t1) (.cons (.int j t2) .nil)), by simp [NestedKey.depth, NestedKey.depthAll]⟩
  obtain ⟨o, n, ho, hc, hd, hdat⟩ := pl
  refine dict_keyed (kvs := [(.tup [.num i, .num j], u3)]) nestedKind_stays (PairArg.list a #[.ref b] (fun _ => b) [(.ref c, u3)]) (I.ok.hd hcalm) (by show X.A.in1.in1.units + 8 < cLine; show X.A.units + 1 + 1 + 8 < cLine; omega) ⟨⟨o, n, ho, hc, hd, hdat⟩, rfl, fun k key x hj => ?_⟩ ⟨[(.tup [.num i, .num j], c, u3)], rfl, ⟨rfl, fun k key x hj => ?_⟩, fun x hx => ?_⟩ nestedKind_stays.all (by rw [sizeLine_eq]; simp) fun h' tk hm' hk => ?_
  · match k with
    | 0 => cases hj; exact ⟨rfl, .inl ht⟩
    | k + 1 => exact nomatch hj
  · match k with
    | 0 => cases hj; exact ⟨_, c, rfl, rfl⟩
    | k + 1 => exact nomatch hj
  · rw [List.mem_singleton.mp hx]
    exact key
  · have cl := keyed_cls hm'
    exact ⟨.ref s.heap.objs.size, upd H s.heap.objs.size (.ext (clsD s.heap.objs.size)), I.laid (t' := tk) (fun b o e => hk b o (fun z => nomatch z) e) (Nat.le_refl _) (show ObjOk X.prog X.w _ _ _ (.ext (clsD s.heap.objs.size)) from ⟨cl, ⟨_, cl.choose_spec.1⟩, fun h1 h2 ⟨o, e, z⟩ k => ⟨o, k o e, z⟩⟩), rfl, q _ (I.hok.fresh (Nat.le_refl _))⟩
end
variable [Tbl]
section
variable {X : Cx} {W : WX} {k : Nat} {a : Expr} {da : D} {p pos : Pos}
def dict1 : PyData → Option PyData
  | .list [.tuple [.tuple [.int _, .int _], _]] => some (.dict [])
  | _ => none
def pyDict1 : List PyData → Option PyData
  | [d] => dict1 d
  | _ => none
theorem cd_dict1 {K : PySem.W.Frag} : CaD K (rDict1 K) pyDict1 := fun O0 env σ H vs u ps Q ok rps e kk => by
  unfold pyDict1 at e
  split at e
  case h_2 => cases e
  rename_i d
  unfold dict1 at e
  split at e
  case h_2 => cases e
  cases e
  cases rps with
  | cons h1 t =>
  cases t
  cases h1 with
  | lst l1 l2 l3 =>
  cases l3 with
  | cons h2 t =>
  cases t
  cases h2 with
  | tup t1 t2 =>
  cases t2 with
  | cons h3 t3 =>
  cases t3 with
  | cons h4 t4 =>
  cases t4
  cases h3 with
  | tup k1 k2 =>
  cases k2 with
  | cons g1 k3 =>
  cases k3 with
  | cons g2 k4 =>
  cases k4
  cases g1
  cases g2
  exact ⟨_, _, _, _, _, _, rfl, .inl (.inl l1), t1, k1, fun p hp => kk _ _ (StpE.new ok hp) (.dic (.inr ⟨_, upd_same, fun g h => h⟩))⟩
theorem de_dict1 (G : Gd X W k) (hm : X.mg "dict" = none) (ha : DAs X W [a] (dArgs [da])) (hg : Gl X "dict" := by rfl) (he : starEach [a] X.env = (false, eval a X.env) :: starEach [] X.env := by rfl) (hpl : (backTo pos (starEach [] X.env)).any (·.1) = false := by rfl) :
    DE X W (.Call (.Name "dict" p) [a] [] pos) (dCB pyDict1 [da]) := de_callTy (call_dict1 G.calm (by have := G.room.un; omega)) cd_dict1 (by decide +kernel) hm ha hg (by decide) (by decide) he hpl
end
end TL

namespace TL
open PySem PySem.Spec PyProof.Rows L2

inductive R (S α : Type) where
  | ok (a : α) (s : S)
  | ex (c : Str) (fs : List (Str × PyData)) (s : S)
  | stuck
abbrev QM (S α : Type) := S → R S α
def R.bind {S α β : Type} (m : R S α) (k : α → S → R S β) : R S β := match m with
  | .ok a s => k a s
  | .ex c fs s => .ex c fs s
  | .stuck => .stuck
@[simp] theorem R.bind_ok {S α β : Type} (a : α) (s : S) (k : α → S → R S β) : (R.ok a s).bind k = k a s := rfl
@[simp] theorem R.bind_ex {S α β : Type} (c : Str) (fs : List (Str × PyData)) (s : S) (k : α → S → R S β) : (R.ex c fs s : R S α).bind k = .ex c fs s := rfl
@[simp] theorem R.bind_stuck {S α β : Type} (k : α → S → R S β) : (R.stuck : R S α).bind k = .stuck := rfl
section
variable {S α β γ : Type}
def rP (a : α) : QM S α := fun s => .ok a s
def rB (m : QM S α) (k : α → QM S β) : QM S β := fun s => (m s).bind k
def rX : QM S α := fun _ => .stuck
def rO (o : Option α) : QM S α := match o with
  | some a => rP a
  | none => rX
def r1 (f : α → Option β) (m : QM S α) : QM S β := rB m fun x => rO (f x)
def r2 (f : α → β → Option γ) (m : QM S α) (n : QM S β) : QM S γ := rB m fun x => rB n fun y => rO (f x y)
def rM (f : α → β) (m : QM S α) : QM S β := rB m fun x => rP (f x)
def rI (c : QM S Bool) (a b : QM S α) : QM S α := rB c fun t => if t = true then a else b
def rAnd (a b : QM S Bool) : QM S Bool := rB a fun t => if t = true then b else rP false
def rOr (a b : QM S Bool) : QM S Bool := rB a fun t => if t = true then rP true else b
def rT (m : QM S α) (n : QM S β) : QM S (α × β) := rB m fun x => rB n fun y => rP (x, y)
def rCl (m : QM S α) (n : QM S (List α)) : QM S (List α) := rB m fun x => rB n fun xs => rP (x :: xs)
@[simp] theorem rP_ap (a : α) (s : S) : rP a s = .ok a s := rfl
@[simp] theorem rX_ap (s : S) : (rX : QM S α) s = .stuck := rfl
theorem rB_ap (m : QM S α) (k : α → QM S β) (s : S) : rB m k s = (m s).bind k := rfl
@[simp] theorem rB_P (a : α) (k : α → QM S β) : rB (rP a) k = k a := rfl
@[simp] theorem rB_X (k : α → QM S β) : rB (rX : QM S α) k = rX := rfl
@[simp] theorem rB_B (m : QM S α) (k : α → QM S β) (l : β → QM S γ) : rB (rB m k) l = rB m fun a => rB (k a) l := by
  funext s
  show ((m s).bind k).bind l = (m s).bind _
  cases m s <;> rfl
@[simp] theorem rB_ite (c : Prop) [Decidable c] (a b : QM S α) (k : α → QM S β) : rB (if c then a else b) k = if c then rB a k else rB b k := by split <;> rfl
@[simp] theorem rO_some (a : α) : (rO (some a) : QM S α) = rP a := rfl
@[simp] theorem rO_none : (rO none : QM S α) = rX := rfl
@[simp] theorem r1_P (f : α → Option β) (a : α) : (r1 f (rP a) : QM S β) = rO (f a) := rfl
@[simp] theorem r2_P (f : α → β → Option γ) (a : α) (b : β) : (r2 f (rP a) (rP b) : QM S γ) = rO (f a b) := rfl
@[simp] theorem rM_P (f : α → β) (a : α) : (rM f (rP a) : QM S β) = rP (f a) := rfl
@[simp] theorem rI_P (c : Bool) (a b : QM S α) : rI (rP c) a b = if c = true then a else b := rfl
@[simp] theorem rAnd_P (c : Bool) (b : QM S Bool) : rAnd (rP c) b = if c = true then b else rP false := rfl
@[simp] theorem rOr_P (c : Bool) (b : QM S Bool) : rOr (rP c) b = if c = true then rP true else b := rfl
@[simp] theorem rT_P (a : α) (b : β) : (rT (rP a) (rP b) : QM S (α × β)) = rP (a, b) := rfl
@[simp] theorem rCl_P (a : α) (b : List α) : (rCl (rP a) (rP b) : QM S (List α)) = rP (a :: b) := rfl
theorem rB_ok {m : QM S α} {k : α → QM S β} {s s' : S} {a : α} (h : m s = .ok a s') : rB m k s = k a s' := by
  rw [rB_ap, h]
  rfl
end

inductive Pat where
  | is (o : Option Sl)
  | any
  | fre
  | top
  | lk (ds : List PyData)
def pvX : Option Sl → Bool
  | none => true
  | some (.pv _) => true
  | _ => false
def Pat.Ok : Pat → Option Sl → Prop
  | .is o, x => x = o
  | .any, x => pvX x = true
  | .fre, x => Fr x = true
  | .top, _ => True
  | .lk ds, x => x = some (.ow ds) ∨ x = some (.pv (.list ds))
inductive Mt : List Pat → En → Prop
  | nil : Mt [] []
  | cons {p : Pat} {ps : List Pat} {x : Option Sl} {e : En} : p.Ok x → Mt ps e → Mt (p :: ps) (x :: e)
theorem Mt.get : ∀ {ps : List Pat} {e : En} {i : Nat} {p : Pat}, Mt ps e → ps[i]? = some p → ∃ x, e[i]? = some x ∧ p.Ok x
  | _, _, _, _, .nil, h => by simp at h
  | _, _, 0, _, .cons h1 h2, h => by
    cases h
    exact ⟨_, rfl, h1⟩
  | _, _, i + 1, _, .cons h1 h2, h => Mt.get (i := i) h2 h
theorem Mt.is {ps : List Pat} {e : En} {i : Nat} {o : Option Sl} (h : Mt ps e) (hp : ps[i]? = some (.is o)) : e[i]? = some o := by
  obtain ⟨x, h1, h2⟩ := h.get hp
  rw [h1, h2]
theorem Mt.set : ∀ {ps : List Pat} {e : En} (i : Nat) {p : Pat} {x : Option Sl}, Mt ps e → p.Ok x → Mt (ps.set i p) (e.set i x)
  | _, _, _, _, _, .nil, _ => .nil
  | _, _, 0, _, _, .cons h1 h2, h => .cons h h2
  | _, _, i + 1, _, _, .cons h1 h2, h => .cons h1 (Mt.set i h2 h)
theorem Mt.len : ∀ {ps : List Pat} {e : En}, Mt ps e → ps.length = e.length
  | _, _, .nil => rfl
  | _, _, .cons _ h => congrArg (· + 1) h.len
inductive Le : List Pat → List Pat → Prop
  | nil : Le [] []
  | cons {p q : Pat} {ps qs : List Pat} : (∀ x, p.Ok x → q.Ok x) → Le ps qs → Le (p :: ps) (q :: qs)
theorem Mt.le : ∀ {ps qs : List Pat} {e : En}, Le ps qs → Mt ps e → Mt qs e
  | _, _, _, .nil, .nil => .nil
  | _, _, _, .cons h1 h2, .cons h3 h4 => .cons (h1 _ h3) (Mt.le h2 h4)
theorem Le.refl : ∀ ps : List Pat, Le ps ps
  | [] => .nil
  | _ :: ps => .cons (fun _ h => h) (Le.refl ps)
theorem pl_re {p : Pat} : ∀ x, p.Ok x → p.Ok x := fun _ h => h
theorem pl_pv {v : PyData} : ∀ x, (Pat.is (some (.pv v))).Ok x → Pat.any.Ok x := fun x h => by cases h; rfl
theorem pl_no : ∀ x, (Pat.is none).Ok x → Pat.any.Ok x := fun x h => by cases h; rfl
theorem pl_af : ∀ x, Pat.any.Ok x → Pat.fre.Ok x := fun x h => by
  cases x with
  | none => rfl
  | some s => cases s <;> first | rfl | cases h
theorem pl_top {p : Pat} : ∀ x, p.Ok x → Pat.top.Ok x := fun _ _ => trivial
theorem pl_lf {v : List PyData} : ∀ x, (Pat.lk v).Ok x → Pat.fre.Ok x := fun x h => by rcases h with h | h <;> (cases h; rfl)
def Pat.free : Pat → Bool
  | .is o => Fr o
  | .any => true
  | .fre => true
  | .top => false
  | .lk _ => true
theorem Pat.free_ok {p : Pat} (h : p.free = true) : ∀ x, p.Ok x → Fr x = true := by
  cases p with
  | is o => intro x hx; cases hx; exact h
  | any => exact pl_af
  | fre => exact fun _ h => h
  | top => cases h
  | lk _ => exact pl_lf
theorem Mt.fr {ps : List Pat} {e : En} {i : Nat} {p : Pat} (h : Mt ps e) (hp : ps[i]? = some p) (hf : p.free = true) : free? e i = true := by
  obtain ⟨x, h1, h2⟩ := h.get hp
  rw [free_fr h1]
  exact Pat.free_ok hf x h2

abbrev eI : Int → PyData := .int
abbrev eB : Bool → PyData := .bool
abbrev eS : Str → PyData := .str
abbrev eN : Unit → PyData := fun _ => .none
abbrev eA : PyData → PyData := fun v => v
section
variable {α β γ δ ε : Type}
abbrev eL (e : α → PyData) : List α → PyData := fun l => .list (l.map e)
abbrev eTL (e : α → PyData) : List α → PyData := fun l => .tuple (l.map e)
def eO (e : α → PyData) : Option α → PyData
  | some a => e a
  | none => .none
abbrev eT1 (e : α → PyData) : α → PyData := fun a => .tuple [e a]
abbrev eT2 (a : α → PyData) (b : β → PyData) : α × β → PyData := fun p => .tuple [a p.1, b p.2]
abbrev eT3 (a : α → PyData) (b : β → PyData) (c : γ → PyData) : α × β × γ → PyData := fun p => .tuple [a p.1, b p.2.1, c p.2.2]
end

abbrev EP (S : Type) := S → List Pat
def RV {S α β : Type} (X E' : EP S) (val : α → β) (m : R S α) (o : Out (β × En)) : Prop := match m with
  | .ok a s' => ∃ e', Mt (E' s') e' ∧ o = .ok (val a, e')
  | .ex c fs s' => ∃ e', Mt (X s') e' ∧ o = .ex c fs e'
  | .stuck => True
def RE {S α β : Type} (X E E' : EP S) (m : QM S α) (val : α → β) (d : En → Out (β × En)) : Prop := ∀ s e, Mt (E s) e → RV X E' val (m s) (d e)
section
variable {S α β γ δ A B C : Type} {X E E1 E2 E3 : EP S}
theorem RE.bind {m : QM S α} {val : α → A} {d : En → Out (A × En)} {k : α → QM S β} {val2 : β → B} {f : A × En → Out (B × En)} (h : RE X E E1 m val d) (hk : ∀ a, RE X E1 E2 (k a) val2 (fun e => f (val a, e))) :
    RE X E E2 (rB m k) val2 (fun e => (d e).bind f) := fun s e mt => by
  have := h s e mt
  show RV X E2 val2 ((m s).bind k) _
  cases hm : m s with
  | ok a s' =>
    rw [hm] at this
    obtain ⟨e', h1, h2⟩ := this
    dsimp only
    rw [h2]
    exact hk a s' e' h1
  | ex c fs s' =>
    rw [hm] at this
    obtain ⟨e', h1, h2⟩ := this
    dsimp only
    rw [h2]
    exact ⟨e', h1, rfl⟩
  | stuck => trivial
theorem RE.pure {a : α} {val : α → A} {w : A} (h : val a = w) : RE X E E (rP a) val (fun e => .ok (w, e)) := fun s e mt => ⟨e, mt, by rw [h]⟩
theorem RE.opt {o : Option α} {val : α → A} {q : Option A} (h : ∀ a, o = some a → q = some (val a)) : RE X E E (rO o) val (fun e => (Out.of q).bind fun u => .ok (u, e)) := fun s e mt => by
  cases o with
  | none => trivial
  | some a =>
    dsimp only
    rw [h a rfl]
    exact ⟨e, mt, rfl⟩
theorem RE.le {m : QM S α} {val : α → A} {d : En → Out (A × En)} (h : RE X E E1 m val d) (hl : ∀ s, Le (E1 s) (E2 s)) : RE X E E2 m val d := fun s e mt => by
  have := h s e mt
  cases hm : m s with
  | ok a s' =>
    rw [hm] at this
    obtain ⟨e', h1, h2⟩ := this
    exact ⟨e', h1.le (hl s'), h2⟩
  | ex c fs s' => rw [hm] at this; exact this
  | stuck => trivial
theorem RE.stuck {val : α → A} {d : En → Out (A × En)} : RE X E E1 (rX : QM S α) val d := fun s e mt => trivial
theorem re_c {a : α} {enc : α → PyData} {v : PyData} (h : enc a = v := by rfl) : RE X E E (rP a) enc (dC v) := RE.pure h
theorem re_var {a : α} {enc : α → PyData} {i : Nat} (h : ∀ s, (E s)[i]? = some (.is (some (.pv (enc a))))) : RE X E E (rP a) enc (dVar i) := fun s e mt => by
  refine ⟨e, mt, ?_⟩
  unfold dVar
  rw [mt.is (h s)]
theorem re_varO {l : List α} {enc : α → PyData} {i : Nat} (h : ∀ s, (E s)[i]? = some (.is (some (.ow (l.map enc))))) (h2 : ∀ s, (E s).set i (.is (some (.pv (.list (l.map enc))))) = E1 s) : RE X E E1 (rP l) (eL enc) (dVar i) := fun s e mt => by
  refine ⟨e.set i (some (.pv (.list (l.map enc)))), ?_, ?_⟩
  · rw [← h2]
    exact mt.set i rfl
  · unfold dVar
    rw [mt.is (h s)]
def OpT (g : PyData → PyData → Option PyData) (e1 : α → PyData) (e2 : β → PyData) (e3 : γ → PyData) (f : α → β → Option γ) : Prop := ∀ x y z, f x y = some z → g (e1 x) (e2 y) = some (e3 z)
theorem re_op {g : PyData → PyData → Option PyData} {e1 : α → PyData} {e2 : β → PyData} {e3 : γ → PyData} {f : α → β → Option γ} {m : QM S α} {n : QM S β} {a b : D} (ho : OpT g e1 e2 e3 f) (ha : RE X E E1 m e1 a) (hb : RE X E1 E2 n e2 b) : RE X E E2 (r2 f m n) e3 (dOp g a b) :=
  ha.bind fun x => hb.bind fun y => RE.opt fun z hz => ho x y z hz
theorem re_opC {g : PyData → PyData → Option PyData} {e1 : α → PyData} {e3 : γ → PyData} {f : α → γ} {w : PyData} {m : QM S α} {a : D} (ho : ∀ x, g (e1 x) w = some (e3 (f x))) (ha : RE X E E1 m e1 a) : RE X E E1 (rM f m) e3 (dOp g a (dC w)) := fun s e mt => by
  have := ha s e mt
  show RV X E1 e3 ((m s).bind _) ((a e).bind _)
  cases hm : m s with
  | ok x s' =>
    rw [hm] at this
    obtain ⟨e', h1, h2⟩ := this
    rw [h2]
    refine ⟨e', h1, ?_⟩
    simp [ho]
  | ex c fs s' =>
    rw [hm] at this
    obtain ⟨e', h1, h2⟩ := this
    rw [h2]
    exact ⟨e', h1, rfl⟩
  | stuck => trivial
theorem re_map {f : α → β} {e1 : α → A} {e2 : β → A} {m : QM S α} {d : En → Out (A × En)} (hf : ∀ x, e1 x = e2 (f x)) (h : RE X E E1 m e1 d) : RE X E E1 (rM f m) e2 d := fun s e mt => by
  have := h s e mt
  show RV X E1 e2 ((m s).bind _) _
  cases hm : m s with
  | ok x s' =>
    rw [hm] at this
    obtain ⟨e', h1, h2⟩ := this
    exact ⟨e', h1, by rw [h2, hf]⟩
  | ex c fs s' => rw [hm] at this; exact this
  | stuck => trivial
theorem rt_bool {m : QM S Bool} {d : D} (h : RE X E E1 m eB d) : RE X E E1 m id (dBool d) := fun s e mt => by
  have := h s e mt
  show RV X E1 id (m s) ((d e).bind _)
  cases hm : m s with
  | ok x s' =>
    rw [hm] at this
    obtain ⟨e', h1, h2⟩ := this
    rw [h2]
    exact ⟨e', h1, rfl⟩
  | ex c fs s' =>
    rw [hm] at this
    obtain ⟨e', h1, h2⟩ := this
    rw [h2]
    exact ⟨e', h1, rfl⟩
  | stuck => trivial
theorem rt_truth {enc : α → PyData} {f : α → Bool} {m : QM S α} {d : D} (hf : ∀ x, truth (enc x) = some (f x)) (h : RE X E E1 m enc d) : RE X E E1 (rM f m) id (dTruth d) :=
  (h.bind (f := fun (v, e) => (Out.of (truth v)).bind fun b => .ok (b, e)) fun x s e mt => by
    dsimp only
    rw [hf]
    exact ⟨e, mt, rfl⟩)
theorem rt_truB {m : QM S Bool} {d : D} (h : RE X E E1 m eB d) : RE X E E1 m id (dTruth d) := fun s e mt => by
  have := rt_truth (f := fun b => b) (fun _ => rfl) h s e mt
  have hm : rM (fun b : Bool => b) m s = m s := by
    show (m s).bind _ = m s
    cases m s <;> rfl
  rw [hm] at this
  exact this
theorem rt_and {m n : QM S Bool} {t u : DT} (h : RE X E E1 m id t) (h2 : RE X E1 E1 n id u) : RE X E E1 (rAnd m n) id (dAnd t u) := h.bind fun b => by
  cases b with
  | true => exact h2
  | false => exact RE.pure rfl
theorem rt_or {m n : QM S Bool} {t u : DT} (h : RE X E E1 m id t) (h2 : RE X E1 E1 n id u) : RE X E E1 (rOr m n) id (dOr t u) := h.bind fun b => by
  cases b with
  | true => exact RE.pure rfl
  | false => exact h2
theorem rt_not {m : QM S Bool} {t : DT} (h : RE X E E1 m id t) : RE X E E1 (rM not m) id (dNot t) := h.bind fun b => RE.pure rfl
theorem re_andV {m n : QM S Bool} {a b : D} (h : RE X E E1 m eB a) (h2 : RE X E1 E1 n eB b) : RE X E E1 (rAnd m n) eB (dAndV a b) := h.bind fun x => by
  cases x with
  | true => exact h2
  | false => exact RE.pure rfl
theorem re_orV {m n : QM S Bool} {a b : D} (h : RE X E E1 m eB a) (h2 : RE X E1 E1 n eB b) : RE X E E1 (rOr m n) eB (dOrV a b) := h.bind fun x => by
  cases x with
  | true => exact RE.pure rfl
  | false => exact h2
theorem re_notV {f : α → Bool} {e1 : α → PyData} {m : QM S α} {a : D} (hf : ∀ x, truth (e1 x) = some (f x)) (h : RE X E E1 m e1 a) : RE X E E1 (rM (fun x => !f x) m) eB (dNotV a) := h.bind fun x s e mt => by
  dsimp only
  rw [hf]
  exact ⟨e, mt, rfl⟩
theorem re_notB {m : QM S Bool} {a : D} (h : RE X E E1 m eB a) : RE X E E1 (rM not m) eB (dNotV a) := re_notV (f := fun b => b) (fun _ => rfl) h
theorem re_if {c : QM S Bool} {m n : QM S α} {enc : α → PyData} {t : DT} {a b : D} (hc : RE X E E1 c id t) (ha : RE X E1 E2 m enc a) (hb : RE X E1 E2 n enc b) : RE X E E2 (rI c m n) enc (dIf t a b) := hc.bind fun x => by
  cases x with
  | true => exact ha
  | false => exact hb
theorem re_neg {m : QM S Int} {a : D} (h : RE X E E1 m eI a) : RE X E E1 (rM (fun i => -i) m) eI (dNeg a) := h.bind fun x => RE.pure rfl
theorem ra_0 : RE X E E (rP ()) (fun _ => []) (dArgs []) := RE.pure rfl
theorem ra_1 {e1 : α → PyData} {m : QM S α} {a : D} (h : RE X E E1 m e1 a) : RE X E E1 m (fun x => [e1 x]) (dArgs [a]) := fun s e mt => by
  have := h s e mt
  show RV X E1 _ (m s) ((a e).bind _)
  cases hm : m s with
  | ok x s' =>
    rw [hm] at this
    obtain ⟨e', h1, h2⟩ := this
    rw [h2]
    exact ⟨e', h1, rfl⟩
  | ex c fs s' =>
    rw [hm] at this
    obtain ⟨e', h1, h2⟩ := this
    rw [h2]
    exact ⟨e', h1, rfl⟩
  | stuck => trivial
theorem ra_c {e1 : α → PyData} {es : β → List PyData} {m : QM S α} {n : QM S β} {a : D} {ds : List D} (h : RE X E E1 m e1 a) (hr : RE X E1 E2 n es (dArgs ds)) : RE X E E2 (rT m n) (fun p => e1 p.1 :: es p.2) (dArgs (a :: ds)) :=
  h.bind fun x => hr.bind fun y => RE.pure rfl
theorem ral_nil {enc : α → PyData} : RE X E E (rP ([] : List α)) (List.map enc) (dArgs []) := RE.pure rfl
theorem ral_c {enc : α → PyData} {m : QM S α} {n : QM S (List α)} {a : D} {ds : List D} (h : RE X E E1 m enc a) (hr : RE X E1 E2 n (List.map enc) (dArgs ds)) : RE X E E2 (rCl m n) (List.map enc) (dArgs (a :: ds)) :=
  h.bind fun x => hr.bind fun y => RE.pure rfl
theorem re_tup {es : α → List PyData} {enc : α → PyData} {m : QM S α} {ds : List D} (he : ∀ x, enc x = .tuple (es x)) (h : RE X E E1 m es (dArgs ds)) : RE X E E1 m enc (dTup ds) := fun s e mt => by
  have := h s e mt
  show RV X E1 _ (m s) ((dArgs ds e).bind _)
  cases hm : m s with
  | ok x s' =>
    rw [hm] at this
    obtain ⟨e', h1, h2⟩ := this
    rw [h2]
    exact ⟨e', h1, by rw [he]; rfl⟩
  | ex c fs s' =>
    rw [hm] at this
    obtain ⟨e', h1, h2⟩ := this
    rw [h2]
    exact ⟨e', h1, rfl⟩
  | stuck => trivial
theorem re_lst {enc : α → PyData} {m : QM S (List α)} {ds : List D} (h : RE X E E1 m (List.map enc) (dArgs ds)) : RE X E E1 m (eL enc) (dLst ds) := fun s e mt => by
  have := h s e mt
  show RV X E1 _ (m s) ((dArgs ds e).bind _)
  cases hm : m s with
  | ok x s' =>
    rw [hm] at this
    obtain ⟨e', h1, h2⟩ := this
    rw [h2]
    exact ⟨e', h1, rfl⟩
  | ex c fs s' =>
    rw [hm] at this
    obtain ⟨e', h1, h2⟩ := this
    rw [h2]
    exact ⟨e', h1, rfl⟩
  | stuck => trivial
theorem rf_lst {enc : α → PyData} {m : QM S (List α)} {ds : List D} (h : RE X E E1 m (List.map enc) (dArgs ds)) : RE X E E1 m (List.map enc) (fLst ds) := h
theorem re_ofF {enc : α → PyData} {m : QM S (List α)} {d : DL} (h : RE X E E1 m (List.map enc) d) : RE X E E1 m (eL enc) (dOfF d) := fun s e mt => by
  have := h s e mt
  show RV X E1 _ (m s) ((d e).bind _)
  cases hm : m s with
  | ok x s' =>
    rw [hm] at this
    obtain ⟨e', h1, h2⟩ := this
    rw [h2]
    exact ⟨e', h1, rfl⟩
  | ex c fs s' =>
    rw [hm] at this
    obtain ⟨e', h1, h2⟩ := this
    rw [h2]
    exact ⟨e', h1, rfl⟩
  | stuck => trivial
theorem re_cb {g : List PyData → Option PyData} {es : α → List PyData} {e2 : β → PyData} {f : α → Option β} {m : QM S α} {ds : List D} (hg : ∀ x z, f x = some z → g (es x) = some (e2 z)) (h : RE X E E1 m es (dArgs ds)) : RE X E E1 (r1 f m) e2 (dCB g ds) :=
  h.bind fun x => RE.opt fun z hz => hg x z hz
theorem re_cbM {g : List PyData → Option PyData} {es : α → List PyData} {e2 : β → PyData} {f : α → β} {m : QM S α} {ds : List D} (hg : ∀ x, g (es x) = some (e2 (f x))) (h : RE X E E1 m es (dArgs ds)) : RE X E E1 (rM f m) e2 (dCB g ds) :=
  h.bind fun x s e mt => by
    dsimp only
    rw [hg]
    exact ⟨e, mt, rfl⟩
theorem re_isA {T : String} {e1 : α → PyData} {f : α → Bool} {m : QM S α} {d : D} (hf : ∀ x, isA T (e1 x) = some (f x)) (h : RE X E E1 m e1 d) : RE X E E1 (rM f m) eB (dIsA T d) :=
  h.bind fun x s e mt => by
    dsimp only
    rw [hf]
    exact ⟨e, mt, rfl⟩
theorem re_isAny {T : List String} {e1 : α → PyData} {f : α → Bool} {m : QM S α} {d : D} (hf : ∀ x, kitL T (tyS (e1 x)) = some (f x)) (h : RE X E E1 m e1 d) : RE X E E1 (rM f m) eB (dIsAny T d) :=
  h.bind fun x s e mt => by
    dsimp only
    rw [hf]
    exact ⟨e, mt, rfl⟩
end
def oAdd (x y : Int) : Option Int := some (x + y)
def oSub (x y : Int) : Option Int := some (x - y)
def oMul (x y : Int) : Option Int := if MulOk x y then some (x * y) else none
def oDiv (x y : Int) : Option Int := if DivOk x y then some (x.fdiv y) else none
def oPow (x y : Int) : Option Int := if PowOk x y then some (x ^ y.toNat) else none
def oLt (x y : Int) : Option Bool := some (decide (x < y))
def oLe (x y : Int) : Option Bool := some (decide (x ≤ y))
def oGt (x y : Int) : Option Bool := some (decide (x > y))
def oGe (x y : Int) : Option Bool := some (decide (x ≥ y))
def oEq {α β : Type} (e1 : α → PyData) (e2 : β → PyData) (x : α) (y : β) : Option Bool := if SeqAt.shaped (e1 x) = true ∧ SeqAt.shaped (e2 y) = true then some (PyData.eqv (e1 x) (e2 y)) else none
def oNe {α β : Type} (e1 : α → PyData) (e2 : β → PyData) (x : α) (y : β) : Option Bool := if SeqAt.shaped (e1 x) = true ∧ SeqAt.shaped (e2 y) = true then some (!PyData.eqv (e1 x) (e2 y)) else none
def oCat {α : Type} (x y : List α) : Option (List α) := if x.length + y.length ≤ sizeLine then some (x ++ y) else none
def oAt {α : Type} (x : List α) (j : Int) : Option α := atI x j
@[simp] theorem oAdd_ (x y : Int) : oAdd x y = some (x + y) := rfl
@[simp] theorem oSub_ (x y : Int) : oSub x y = some (x - y) := rfl
@[simp] theorem oLt_ (x y : Int) : oLt x y = some (decide (x < y)) := rfl
@[simp] theorem oLe_ (x y : Int) : oLe x y = some (decide (x ≤ y)) := rfl
@[simp] theorem oGt_ (x y : Int) : oGt x y = some (decide (x > y)) := rfl
@[simp] theorem oGe_ (x y : Int) : oGe x y = some (decide (x ≥ y)) := rfl
theorem ot_add : OpT pyAdd eI eI eI oAdd := fun x y z h => by cases h; rfl
theorem ot_addI : OpT pyAddI eI eI eI oAdd := fun x y z h => by cases h; rfl
theorem ot_sub : OpT pySub eI eI eI oSub := fun x y z h => by cases h; rfl
theorem ot_I {C : Int → Int → Prop} [∀ i j, Decidable (C i j)] {f : Int → Int → Int} : OpT (gI C fun i j => .int (f i j)) eI eI eI (fun x y => if C x y then some (f x y) else none) := fun x y z h => by
  dsimp only at h
  split at h
  · cases h
    show (if C x y then some _ else none) = _
    rw [if_pos (by assumption)]
  · cases h
theorem ot_mul : OpT pyMul eI eI eI oMul := ot_I
theorem ot_div : OpT pyDiv eI eI eI oDiv := ot_I
theorem ot_pow : OpT pyPow eI eI eI oPow := ot_I
theorem ot_lt : OpT pyLt eI eI eB oLt := fun x y z h => by cases h; rfl
theorem ot_le : OpT pyLe eI eI eB oLe := fun x y z h => by cases h; rfl
theorem ot_gt : OpT pyGt eI eI eB oGt := fun x y z h => by cases h; rfl
theorem ot_eq {α β : Type} {e1 : α → PyData} {e2 : β → PyData} : OpT pyEq e1 e2 eB (oEq e1 e2) := fun x y z h => by
  unfold oEq at h
  unfold pyEq
  split at h
  · cases h
    rw [if_pos (by assumption)]
  · cases h
theorem ot_ne {α β : Type} {e1 : α → PyData} {e2 : β → PyData} : OpT pyNe e1 e2 eB (oNe e1 e2) := fun x y z h => by
  unfold oNe at h
  unfold pyNe
  split at h
  · cases h
    rw [if_pos (by assumption)]
  · cases h
theorem ot_catL {α : Type} {e : α → PyData} : OpT pyAdd (eL e) (eL e) (eL e) oCat := fun x y z h => by
  unfold oCat at h
  split at h
  · cases h
    show (if (x.map e).length + (y.map e).length ≤ sizeLine then some (PyData.list (x.map e ++ y.map e)) else none) = _
    rw [List.length_map, List.length_map, if_pos (by assumption), ← List.map_append]
  · cases h
theorem atI_mapE {α : Type} {e : α → PyData} (l : List α) (j : Int) : atI (l.map e) j = (atI l j).map e := by
  unfold atI
  rw [List.length_map]
  cases ixN l.length j with
  | none => rfl
  | some n => simp
theorem ot_ixL {α : Type} {e : α → PyData} : OpT pyIx (eL e) eI e oAt := fun x y z h => by
  show atI (x.map e) y = _
  rw [atI_mapE, show atI x y = some z from h]
  rfl
end TL

namespace TL
open PySem PySem.Spec PyProof.Rows L2
def RF {S ρ : Type} (l : S → List Sl) (enc : ρ → PyData) (m : R S ρ) (o : OutF) : Prop := match m with
  | .ok r s => ∃ as, o = .val (enc r) (l s ++ as) ∨ ∃ ds, o = .fresh ds (l s ++ as) ∧ enc r = .list ds
  | .ex c fs s => ∃ as, o = .ex c fs (l s ++ as)
  | .stuck => True
section
variable {S α β γ ρ A B C : Type} {X E E1 E2 E3 : EP S}
def rC (g : α → R Unit ρ) (m : QM S α) : QM S ρ := rB m fun x => fun s => match g x with
  | .ok r _ => .ok r s
  | .ex c fs _ => .ex c fs s
  | .stuck => .stuck
def rG (m : R Unit ρ) : QM S ρ := fun s => match m with
  | .ok r _ => .ok r s
  | .ex c fs _ => .ex c fs s
  | .stuck => .stuck
@[simp] theorem rC_P (g : α → R Unit ρ) (a : α) : (rC g (rP a) : QM S ρ) = rG (g a) := rfl
@[simp] theorem rG_ok (r : ρ) (u : Unit) : (rG (.ok r u) : QM S ρ) = rP r := rfl
abbrev noS : Unit → List Sl := fun _ => []
theorem re_call {g : α → R Unit ρ} {F : Fn} {es : α → List PyData} {enc : ρ → PyData} {m : QM S α} {ds : List D} (hF : ∀ x, RF noS enc (g x) (F ((es x).map .pv))) (h : RE X E E1 m es (dArgs ds)) (hX : ∀ s, Le (E1 s) (X s)) : RE X E E1 (rC g m) enc (dCall F ds) :=
  h.bind fun x s e mt => by
    have hf := hF x
    dsimp only
    cases hg : g x with
    | ok r u =>
      rw [hg] at hf
      obtain ⟨as, h1 | ⟨dl, h1, h2⟩⟩ := hf
      · rw [h1]; exact ⟨e, mt, rfl⟩
      · rw [h1]; exact ⟨e, mt, by rw [h2]; rfl⟩
    | ex c fs u =>
      rw [hg] at hf
      obtain ⟨as, h1⟩ := hf
      rw [h1]
      exact ⟨e, mt.le (hX s), rfl⟩
    | stuck => trivial
theorem re_callP {g : α → R Unit ρ} {F : Fn} {perm : List Nat} {es : α → List PyData} {enc : ρ → PyData} {m : QM S α} {ds : List D} (hF : ∀ x, RF noS enc (g x) (F ((perm' perm (es x)).map .pv))) (h : RE X E E1 m es (dArgs ds)) (hX : ∀ s, Le (E1 s) (X s)) : RE X E E1 (rC g m) enc (dCallP F perm ds) :=
  h.bind fun x s e mt => by
    have hf := hF x
    dsimp only
    cases hg : g x with
    | ok r u =>
      rw [hg] at hf
      obtain ⟨as, h1 | ⟨dl, h1, h2⟩⟩ := hf
      · rw [h1]; exact ⟨e, mt, rfl⟩
      · rw [h1]; exact ⟨e, mt, by rw [h2]; rfl⟩
    | ex c fs u =>
      rw [hg] at hf
      obtain ⟨as, h1⟩ := hf
      rw [h1]
      exact ⟨e, mt.le (hX s), rfl⟩
    | stuck => trivial
def rCS (g : α → QM S ρ) (m : QM S α) : QM S ρ := rB m g
@[simp] theorem rCS_P (g : α → QM S ρ) (a : α) : rCS g (rP a) = g a := rfl
def SrcAt (l : S → List PyData) (E : EP S) (i : Nat) : Prop := (∀ s, (E s)[i]? = some (.is (some (.ow (l s)))) ∧ ∀ s', (E s).set i (.is (some (.ow (l s')))) = E s') ∨ (∀ s, (E s)[i]? = some (.is (some (.io (l s)))) ∧ ∀ s', (E s).set i (.is (some (.io (l s')))) = E s')
theorem src_ref {l : S → List PyData} {i : Nat} (h : SrcAt l E i) {s : S} {e : En} (mt : Mt (E s) e) : refAt e i = some (.io (l s)) ∧ ∀ s' as, Mt (E s') (putRef e i (.io (l s)) ([.io (l s')] ++ as)) := by
  rcases h with h | h
  · obtain ⟨h1, h2⟩ := h s
    have he := mt.is h1
    refine ⟨by unfold refAt; rw [he], fun s' as => ?_⟩
    show Mt (E s') (putOw e i (l s'))
    unfold putOw
    rw [he, ← h2 s']
    exact mt.set i rfl
  · obtain ⟨h1, h2⟩ := h s
    have he := mt.is h1
    refine ⟨by unfold refAt; rw [he], fun s' as => ?_⟩
    show Mt (E s') (putOw e i (l s'))
    unfold putOw
    rw [he, ← h2 s']
    exact mt.set i rfl
theorem re_callS {l : S → List PyData} {i : Nat} {g : α → QM S ρ} {F : Fn} {es : α → List PyData} {enc : ρ → PyData} {m : QM S α} {ds : List D} (h0 : SrcAt l E i) (h1 : SrcAt l E1 i) (hF : ∀ x s, RF (fun s => [.io (l s)]) enc (g x s) (F (.io (l s) :: (es x).map .pv))) (h : RE X E E1 m es (dArgs ds)) (hX : ∀ s, Le (E1 s) (X s)) :
    RE X E E1 (rCS g m) enc (dCallS F i ds) := fun s e mt => by
  unfold dCallS
  rw [(src_ref h0 mt).1]
  refine (h.bind (f := fun (vs, e1) => (Out.of (refAt e1 i)).bind fun s => Out.call (F (s :: vs.map .pv)) fun as => putRef e1 i s as) fun x s e mt => ?_) s e mt
  dsimp only
  obtain ⟨r1, r2⟩ := src_ref h1 mt
  rw [r1]
  have hf := hF x s
  simp only [Out.of_some, Out.bind_ok]
  cases hg : g x s with
  | ok r s' =>
    rw [hg] at hf
    obtain ⟨as, hv | ⟨dl, hv, h2⟩⟩ := hf
    · rw [hv]; exact ⟨_, r2 s' as, rfl⟩
    · rw [hv]; exact ⟨_, r2 s' as, by rw [h2]; rfl⟩
  | ex c fs s' =>
    rw [hg] at hf
    obtain ⟨as, hv⟩ := hf
    rw [hv]
    exact ⟨_, (r2 s' as).le (hX s'), rfl⟩
  | stuck => trivial
theorem ri_L {enc : α → PyData} {m : QM S (List α)} {d : D} (h : RE X E E1 m (eL enc) d) : RE X E E1 m (List.map enc) (dIt itemsL d) := fun s e mt => by
  have := h s e mt
  show RV X E1 _ (m s) ((d e).bind _)
  cases hm : m s with
  | ok x s' => rw [hm] at this; obtain ⟨e', h1, h2⟩ := this; rw [h2]; exact ⟨e', h1, rfl⟩
  | ex c fs s' => rw [hm] at this; obtain ⟨e', h1, h2⟩ := this; rw [h2]; exact ⟨e', h1, rfl⟩
  | stuck => trivial
theorem ri_SL {enc : α → PyData} {m : QM S (List α)} {d : D} (h : RE X E E1 m (eL enc) d) : RE X E E1 m (List.map enc) (dIt seqOf d) := fun s e mt => by
  have := h s e mt
  show RV X E1 _ (m s) ((d e).bind _)
  cases hm : m s with
  | ok x s' => rw [hm] at this; obtain ⟨e', h1, h2⟩ := this; rw [h2]; exact ⟨e', h1, rfl⟩
  | ex c fs s' => rw [hm] at this; obtain ⟨e', h1, h2⟩ := this; rw [h2]; exact ⟨e', h1, rfl⟩
  | stuck => trivial
theorem ri_ST {enc : α → PyData} {m : QM S (List α)} {d : D} (h : RE X E E1 m (eTL enc) d) : RE X E E1 m (List.map enc) (dIt seqOf d) := fun s e mt => by
  have := h s e mt
  show RV X E1 _ (m s) ((d e).bind _)
  cases hm : m s with
  | ok x s' => rw [hm] at this; obtain ⟨e', h1, h2⟩ := this; rw [h2]; exact ⟨e', h1, rfl⟩
  | ex c fs s' => rw [hm] at this; obtain ⟨e', h1, h2⟩ := this; rw [h2]; exact ⟨e', h1, rfl⟩
  | stuck => trivial
def rngI (lo : Int) (n : Nat) : List Int := (List.range n).map fun (i : Nat) => lo + (i : Int)
theorem rngI_map (lo : Int) (n : Nat) : (rngI lo n).map eI = rng lo n := by
  unfold rngI rng
  rw [List.map_map]
  rfl
open Classical in
noncomputable def oRng1 (j : Int) : Option (List Int) := @ite _ (-(2 ^ 62) ≤ j ∧ j < 2 ^ 62) (propDecidable _) (some (rngI 0 j.toNat)) none
theorem ri_rng1 {m : QM S Int} {ds : List D} (h : RE X E E1 m (fun x => [eI x]) (dArgs ds)) : RE X E E1 (r1 oRng1 m) (List.map eI) (dItA rng1 ds) := h.bind fun x => RE.opt fun z hz => by
  unfold oRng1 at hz
  split at hz
  · cases hz
    show (if _ then some _ else none) = _
    rw [if_pos (by assumption), rngI_map]
  · cases hz
def RG (E B : EP S) (v : PyData) (g : DG) : Prop := ∀ s e, Mt (E s) e → ∃ e', g v e = some e' ∧ Mt (B s) e'
theorem rg_nm {v : PyData} {i : Nat} {p : S → Pat} (h : ∀ s, (E s)[i]? = some (p s) ∧ (p s).free = true) (h2 : ∀ s, (E s).set i (.is (some (.pv v))) = E1 s) : RG E E1 v (gNm i) := fun s e mt => by
  refine ⟨e.set i (some (.pv v)), ?_, by rw [← h2]; exact mt.set i rfl⟩
  show setPv e i v = _
  unfold setPv
  rw [if_pos (mt.fr (h s).1 (h s).2)]
def wipeP (ps : List Pat) : List Nat → List Pat
  | [] => ps
  | v :: vs => (wipeP ps vs).set v (.is none)
theorem Mt.wipe {ps : List Pat} {e : En} (h : Mt ps e) : ∀ vs, Mt (wipeP ps vs) (wipeE e vs)
  | [] => h
  | v :: vs => (Mt.wipe h vs).set v rfl
def backP (p1 pn : List Pat) (vs : List Nat) : List Pat := pn.mapIdx fun i s => if i ∈ vs then p1[i]?.getD (.is none) else s
theorem Mt.of : ∀ {ps : List Pat} {e : En}, ps.length = e.length → (∀ (i : Nat) p x, ps[i]? = some p → e[i]? = some x → p.Ok x) → Mt ps e
  | [], [], _, _ => .nil
  | [], _ :: _, h, _ => by cases h
  | _ :: _, [], h, _ => by cases h
  | p :: ps, x :: e, h, k => .cons (k 0 p x rfl rfl) (Mt.of (Nat.succ.inj h) fun i q y h1 h2 => k (i + 1) q y h1 h2)
theorem Mt.back {p1 pn : List Pat} {e1 en : En} {vs : List Nat} (h1 : Mt p1 e1) (hn : Mt pn en) : Mt (backP p1 pn vs) (backE e1 en vs) := by
  refine Mt.of ?_ fun i p x hp hx => ?_
  · unfold backP backE
    rw [List.length_mapIdx, List.length_mapIdx, hn.len]
  · unfold backP at hp
    unfold backE at hx
    rw [List.getElem?_mapIdx] at hp hx
    cases hpn : pn[i]? with
    | none => rw [hpn] at hp; cases hp
    | some q =>
      obtain ⟨y, hy, ok⟩ := hn.get hpn
      rw [hpn] at hp
      rw [hy] at hx
      simp only [Option.map_some, Option.some.injEq] at hp hx
      subst hp
      subst hx
      by_cases hi : i ∈ vs
      · rw [if_pos hi, if_pos hi]
        cases h3 : p1[i]? with
        | none =>
          have : e1[i]? = none := by
            rw [List.getElem?_eq_none_iff] at h3 ⊢
            rw [← h1.len]
            exact h3
          rw [this]
          rfl
        | some q1 =>
          obtain ⟨z, hz, ok2⟩ := h1.get h3
          rw [hz]
          exact ok2
      · rw [if_neg hi, if_neg hi]
        exact ok
end
end TL

namespace TL
open PySem PySem.Spec PyProof.Rows L2
inductive Fl (τ l ρ : Type) where
  | nx (t : τ)
  | bk (t : l)
  | ct (t : l)
  | rt (r : ρ)
inductive Rv where
  | v (d : PyData)
  | f (ds : List PyData)
def Rv.out : Rv → En → OutS
  | .v d, e => .rt d e
  | .f ds, e => .rl ds e
theorem Rv.then (r : Rv) (e : En) (b : DS) : (r.out e).then b = r.out e := by cases r <;> rfl
structure Cq (S l ρ : Type) where
  X : EP S
  L : l → EP S
  rt : ρ → Rv
  F : EP S
section
variable {S τ τ' τ2 l l2 ρ α β γ A : Type}
def SV (C : Cq S l ρ) (E' : τ → EP S) (m : R S (Fl τ l ρ)) (o : OutS) : Prop := match m with
  | .ok (.nx t) s => ∃ e', Mt (E' t s) e' ∧ o = .nx e'
  | .ok (.bk t) s => ∃ e', Mt (C.L t s) e' ∧ o = .bk e'
  | .ok (.ct t) s => ∃ e', Mt (C.L t s) e' ∧ o = .ct e'
  | .ok (.rt r) s => ∃ e', Mt (C.F s) e' ∧ o = (C.rt r).out e'
  | .ex c fs s => ∃ e', Mt (C.X s) e' ∧ o = .ex c fs e'
  | .stuck => True
def SS (C : Cq S l ρ) (E : EP S) (E' : τ → EP S) (m : QM S (Fl τ l ρ)) (b : DS) : Prop := ∀ s e, Mt (E s) e → SV C E' (m s) (b e)
variable {C : Cq S l ρ} {E E1 E2 : EP S} {Et : τ → EP S} {Et2 : τ2 → EP S}
def rSq (m : QM S (Fl τ l ρ)) (k : τ → QM S (Fl τ2 l ρ)) : QM S (Fl τ2 l ρ) := rB m fun fl => match fl with
  | .nx t => k t
  | .bk t => rP (.bk t)
  | .ct t => rP (.ct t)
  | .rt r => rP (.rt r)
@[simp] theorem rSq_nx (t : τ) (k : τ → QM S (Fl τ2 l ρ)) : rSq (rP (.nx t)) k = k t := rfl
@[simp] theorem rSq_rt (r : ρ) (k : τ → QM S (Fl τ2 l ρ)) : rSq (rP (.rt r)) k = rP (.rt r) := rfl
@[simp] theorem rSq_bk (r : l) (k : τ → QM S (Fl τ2 l ρ)) : rSq (rP (.bk r)) k = rP (.bk r) := rfl
@[simp] theorem rSq_ct (r : l) (k : τ → QM S (Fl τ2 l ρ)) : rSq (rP (.ct r)) k = rP (.ct r) := rfl
@[simp] theorem rSq_X (k : τ → QM S (Fl τ2 l ρ)) : rSq (rX) k = rX := rfl
@[simp] theorem rSq_B (m : QM S α) (f : α → QM S (Fl τ l ρ)) (k : τ → QM S (Fl τ2 l ρ)) : rSq (rB m f) k = rB m fun a => rSq (f a) k := rB_B _ _ _
@[simp] theorem rSq_ite (c : Prop) [Decidable c] (a b : QM S (Fl τ l ρ)) (k : τ → QM S (Fl τ2 l ρ)) : rSq (if c then a else b) k = if c then rSq a k else rSq b k := by split <;> rfl
theorem rs_seq {m : QM S (Fl τ l ρ)} {k : τ → QM S (Fl τ2 l ρ)} {a b : DS} (h : SS C E Et m a) (hk : ∀ t, SS C (Et t) Et2 (k t) b) : SS C E Et2 (rSq m k) (dSeq a b) := fun s e mt => by
  have := h s e mt
  show SV C Et2 ((m s).bind _) ((a e).then b)
  cases hm : m s with
  | ok fl s' =>
    rw [hm] at this
    cases fl with
    | nx t => obtain ⟨e', h1, h2⟩ := this; rw [h2]; exact hk t s' e' h1
    | bk t => obtain ⟨e', h1, h2⟩ := this; rw [h2]; exact ⟨e', h1, rfl⟩
    | ct t => obtain ⟨e', h1, h2⟩ := this; rw [h2]; exact ⟨e', h1, rfl⟩
    | rt t => obtain ⟨e', h1, h2⟩ := this; rw [h2, Rv.then]; exact ⟨e', h1, rfl⟩
  | ex c fs s' => rw [hm] at this; obtain ⟨e', h1, h2⟩ := this; rw [h2]; exact ⟨e', h1, rfl⟩
  | stuck => trivial
theorem SS.go {m : QM S α} {val : α → A} {d : En → Out (A × En)} {k : α → QM S (Fl τ l ρ)} {f : A → En → OutS} (h : RE C.X E E1 m val d) (hk : ∀ a s e, Mt (E1 s) e → SV C Et (k a s) (f (val a) e)) : SS C E Et (rB m k) (fun e => (d e).goS f) := fun s e mt => by
  have := h s e mt
  show SV C Et ((m s).bind k) _
  cases hm : m s with
  | ok a s' =>
    rw [hm] at this
    obtain ⟨e', h1, h2⟩ := this
    dsimp only
    rw [h2]
    exact hk a s' e' h1
  | ex c fs s' =>
    rw [hm] at this
    obtain ⟨e', h1, h2⟩ := this
    dsimp only
    rw [h2]
    exact ⟨e', h1, rfl⟩
  | stuck => trivial
theorem rs_cv {m : QM S (Fl τ l ρ)} {b : DS} (f : τ → τ2) (h : SS C E Et m b) (hl : ∀ t s, Le (Et t s) (Et2 (f t) s)) : SS C E Et2 (rSq m fun t => rP (.nx (f t))) b := fun s e mt => by
  have := h s e mt
  show SV C Et2 ((m s).bind _) (b e)
  cases hm : m s with
  | ok fl s' =>
    rw [hm] at this
    cases fl with
    | nx t => obtain ⟨e', h1, h2⟩ := this; exact ⟨e', h1.le (hl t s'), h2⟩
    | bk t => exact this
    | ct t => exact this
    | rt t => exact this
  | ex c fs s' => rw [hm] at this; exact this
  | stuck => trivial
theorem rs_asg {m : QM S α} {enc : α → PyData} {d : D} {g : DG} {Ea : α → EP S} (h : RE C.X E E1 m enc d) (hg : ∀ a, RG E1 (Ea a) (enc a) g) : SS C E Ea (rB m fun a => rP (.nx a)) (dAsg d g) :=
  SS.go h fun a s e mt => by
    obtain ⟨e', h1, h2⟩ := hg a s e mt
    try dsimp only
    rw [h1]
    exact ⟨e', h2, rfl⟩
theorem setPv_nm {e e' : En} {i : Nat} {v : PyData} (h : gNm i v e = some e') : setPv e i v = some e' := h
theorem rs_par {m : QM S α} {es : α → List PyData} {v w : α → PyData} {a b : D} {i j : Nat} {Em Ea : α → EP S} (h : RE C.X E E1 m es (dArgs [a, b])) (he : ∀ x, es x = [v x, w x]) (h1 : ∀ x, RG E1 (Em x) (v x) (gNm i)) (h2 : ∀ x, RG (Em x) (Ea x) (w x) (gNm j)) : SS C E Ea (rB m fun x => rP (.nx x)) (dPar i j a b) :=
  SS.go h fun x s e mt => by
    obtain ⟨e1, h3, h4⟩ := h1 x s e mt
    obtain ⟨e2, h5, h6⟩ := h2 x s e1 h4
    try dsimp only
    rw [he x]
    show SV C Ea _ (Out.ofS ((setPv e i (v x)).bind fun e2 => setPv e2 j (w x)) _)
    rw [setPv_nm h3, Option.bind_some, setPv_nm h5]
    exact ⟨e2, h6, rfl⟩
def RO (E B : EP S) (ds : List PyData) (i : Nat) : Prop := ∀ s e, Mt (E s) e → ∃ e', setOw e i ds = some e' ∧ Mt (B s) e'
theorem ro_nm {ds : List PyData} {i : Nat} {p : S → Pat} (h : ∀ s, (E s)[i]? = some (p s) ∧ (p s).free = true) (h2 : ∀ s, (E s).set i (.is (some (.ow ds))) = E1 s) : RO E E1 ds i := fun s e mt => by
  refine ⟨e.set i (some (.ow ds)), ?_, by rw [← h2]; exact mt.set i rfl⟩
  unfold setOw
  rw [if_pos (mt.fr (h s).1 (h s).2)]
theorem rs_asgO {m : QM S α} {enc : α → List PyData} {d : DL} {i : Nat} {Ea : α → EP S} (h : RE C.X E E1 m enc d) (hg : ∀ a, RO E1 (Ea a) (enc a) i) : SS C E Ea (rB m fun a => rP (.nx a)) (dAsgO i d) :=
  SS.go h fun a s e mt => by
    obtain ⟨e', h1, h2⟩ := hg a s e mt
    try dsimp only
    rw [h1]
    exact ⟨e', h2, rfl⟩
theorem rs_expr {m : QM S α} {enc : α → PyData} {d : D} (h : RE C.X E E1 m enc d) : SS C E (fun _ => E1) (rB m fun _ => rP (.nx ())) (dExpr d) := SS.go h fun a s e mt => ⟨e, mt, rfl⟩
theorem ownAt_mt {i : Nat} {e : En} {ps : List Pat} {ds : List PyData} (mt : Mt ps e) (h : ps[i]? = some (.is (some (.ow ds)))) : ownAt e i = some ds := by
  unfold ownAt
  rw [mt.is h]
theorem putOw_mt {i : Nat} {e : En} {ps : List Pat} {ds ds' : List PyData} (mt : Mt ps e) (h : ps[i]? = some (.is (some (.ow ds)))) : Mt (ps.set i (.is (some (.ow ds')))) (putOw e i ds') := by
  unfold putOw
  rw [mt.is h]
  exact mt.set i rfl
def rAp (xs : List α) (m : QM S α) : QM S (Fl (List α) l ρ) := rB m fun x => if xs.length < sizeLine then rP (.nx (xs ++ [x])) else rX
theorem rs_append {m : QM S α} {enc : α → PyData} {d : D} {i : Nat} {xs : List α} {Ea : List α → EP S} (h0 : ∀ s, (E s)[i]? = some (.is (some (.ow (xs.map enc))))) (h : RE C.X E E1 m enc d) (h1 : ∀ s, (E1 s)[i]? = some (.is (some (.ow (xs.map enc))))) (h2 : ∀ ys s, (E1 s).set i (.is (some (.ow (ys.map enc)))) = Ea ys s) : SS C E Ea (rAp xs m) (dExpr (dAppend i d)) := fun s e mt => by
  have := h s e mt
  show SV C Ea ((m s).bind _) ((dAppend i d e).goS _)
  unfold dAppend
  rw [ownAt_mt mt (h0 s)]
  simp only [Out.of_some, Out.bind_ok]
  cases hm : m s with
  | ok x s' =>
    rw [hm] at this
    obtain ⟨e', h3, h4⟩ := this
    rw [h4]
    simp only [Out.bind_ok, R.bind_ok]
    rw [ownAt_mt h3 (h1 s')]
    simp only [Option.bind_some, appW, List.length_map]
    by_cases hz : xs.length < sizeLine
    · rw [if_pos hz, if_pos hz]
      simp only [Out.of_some, Out.bind_ok, Out.goS_ok]
      refine ⟨_, ?_, rfl⟩
      have := putOw_mt (ds' := (xs ++ [x]).map enc) h3 (h1 s')
      rw [h2] at this
      rw [List.map_append] at this
      exact this
    · rw [if_neg hz]
      trivial
  | ex c fs s' =>
    rw [hm] at this
    obtain ⟨e', h3, h4⟩ := this
    rw [h4]
    exact ⟨e', h3, rfl⟩
  | stuck => trivial
theorem rs_meth {m : QM S β} {es : β → List PyData} {enc : α → PyData} {g : List PyData → List PyData → Option (PyData × List PyData)} {f : β → Option (List α)} {ds : List D} {i : Nat} {xs : List α} {Ea : List α → EP S} (hg : ∀ x ys, f x = some ys → ∃ u, g (xs.map enc) (es x) = some (u, ys.map enc)) (h0 : ∀ s, (E s)[i]? = some (.is (some (.ow (xs.map enc))))) (h : RE C.X E E1 m es (dArgs ds)) (h1 : ∀ s, (E1 s)[i]? = some (.is (some (.ow (xs.map enc))))) (h2 : ∀ ys s, (E1 s).set i (.is (some (.ow (ys.map enc)))) = Ea ys s) : SS C E Ea (rB m fun x => rB (rO (f x)) fun ys => rP (.nx ys)) (dExpr (dMeth g i ds)) := fun s e mt => by
  have := h s e mt
  show SV C Ea ((m s).bind _) ((dMeth g i ds e).goS _)
  unfold dMeth
  rw [ownAt_mt mt (h0 s)]
  simp only [Out.of_some, Out.bind_ok]
  cases hm : m s with
  | ok x s' =>
    rw [hm] at this
    obtain ⟨e', h3, h4⟩ := this
    rw [h4]
    simp only [Out.bind_ok, R.bind_ok]
    rw [ownAt_mt h3 (h1 s')]
    simp only [Option.bind_some]
    cases hf : f x with
    | none => trivial
    | some ys =>
      obtain ⟨u, hu⟩ := hg x ys hf
      rw [hu]
      simp only [Out.of_some, Out.bind_ok, Out.goS_ok]
      refine ⟨_, ?_, rfl⟩
      have := putOw_mt (ds' := ys.map enc) h3 (h1 s')
      rw [h2] at this
      exact this
  | ex c fs s' =>
    rw [hm] at this
    obtain ⟨e', h3, h4⟩ := this
    rw [h4]
    exact ⟨e', h3, rfl⟩
  | stuck => trivial
def oExt (xs : List α) (zs : List α) : Option (List α) := if xs.length + zs.length ≤ sizeLine then some (xs ++ zs) else none
theorem rs_if {c : QM S Bool} {m n : QM S (Fl τ l ρ)} {t : DT} {a b : DS} (hc : RE C.X E E1 c id t) (ha : SS C E1 Et m a) (hb : SS C E1 Et n b) : SS C E Et (rI c m n) (dIfS t a b) :=
  SS.go hc fun x s e mt => by
    cases x with
    | true => exact ha s e mt
    | false => exact hb s e mt
theorem rs_ret {m : QM S α} {enc : α → PyData} {d : D} {f : α → ρ} (h : RE C.X E E1 m enc d) (hr : ∀ a, C.rt (f a) = .v (enc a)) (hl : ∀ s, Le (E1 s) (C.F s)) : SS C E Et (rB m fun a => rP (.rt (f a))) (dRet d) := SS.go h fun a s e mt => ⟨e, mt.le (hl s), by rw [hr]; rfl⟩
def rRs (c attr : Str) (enc : α → PyData) (m : QM S α) : QM S (Fl τ l ρ) := rB m fun x s => .ex c [(attr, enc x)] s
theorem rs_raise {m : QM S α} {enc : α → PyData} {d : D} {c attr : Str} (h : RE C.X E E1 m enc d) (hl : ∀ s, Le (E1 s) (C.X s)) : SS C E Et (rRs c attr enc m) (dRaise c attr d) := SS.go h fun a s e mt => ⟨e, mt.le (hl s), rfl⟩
theorem rs_aug {m : QM S α} {e0 : β → PyData} {e1 : α → PyData} {e2 : γ → PyData} {g : PyData → PyData → Option PyData} {f : β → α → Option γ} {x : β} {d : D} {i : Nat} {Ea : γ → EP S} (ho : OpT g e0 e1 e2 f) (h0 : ∀ s, (E s)[i]? = some (.is (some (.pv (e0 x))))) (h : RE C.X E E1 m e1 d) (hg : ∀ a, RG E1 (Ea a) (e2 a) (gNm i)) : SS C E Ea (rB m fun y => rB (rO (f x y)) fun z => rP (.nx z)) (dAug i g d) := fun s e mt => by
  unfold dAug
  rw [mt.is (h0 s)]
  refine SS.go (C := C) (Et := Ea) h (fun y s e mt => ?_) s e mt
  cases hf : f x y with
  | none => trivial
  | some z =>
    rw [ho x y z hf]
    obtain ⟨e', h1, h2⟩ := hg z s e mt
    simp only [Out.ofS_some]
    rw [setPv_nm h1]
    exact ⟨e', h2, rfl⟩
def rFor (body : α → τ → QM S (Fl τ τ ρ)) : List α → τ → QM S (Fl τ l ρ)
  | [], t => rP (.nx t)
  | x :: xs, t => rB (body x t) fun fl => match fl with
    | .nx t' => rFor body xs t'
    | .ct t' => rFor body xs t'
    | .bk t' => rP (.nx t')
    | .rt r => rP (.rt r)
@[simp] theorem rFor_nil (body : α → τ → QM S (Fl τ τ ρ)) (t : τ) : (rFor body [] t : QM S (Fl τ l ρ)) = rP (.nx t) := rfl
theorem rFor_cons (body : α → τ → QM S (Fl τ τ ρ)) (x : α) (xs : List α) (t : τ) : (rFor body (x :: xs) t : QM S (Fl τ l ρ)) = rB (body x t) fun fl => match fl with
    | .nx t' => rFor body xs t'
    | .ct t' => rFor body xs t'
    | .bk t' => rP (.nx t')
    | .rt r => rP (.rt r) := rfl
theorem rFor_ok {body : α → τ → QM S (Fl τ τ ρ)} {ea : α → PyData} {g : DG} {b : DS} {I : τ → EP S} {B : α → τ → EP S} (hg : ∀ x t, RG (I t) (B x t) (ea x) g) (hb : ∀ x t, SS ⟨C.X, I, C.rt, C.F⟩ (B x t) I (body x t) b) : ∀ (xs : List α) (t : τ), SS C (I t) I (rFor body xs t) (loopF g b (xs.map ea))
  | [], t => fun s e mt => ⟨e, mt, rfl⟩
  | x :: xs, t => fun s e mt => by
    obtain ⟨e1, h1, h2⟩ := hg x t s e mt
    have h := hb x t s e1 h2
    rw [List.map_cons]
    show SV C I ((body x t s).bind _) (Out.ofS (g (ea x) e) _)
    rw [h1]
    simp only [Out.ofS_some]
    cases hm : body x t s with
    | ok fl s' =>
      rw [hm] at h
      cases fl with
      | nx t' => obtain ⟨e', h3, h4⟩ := h; rw [h4]; exact rFor_ok hg hb xs t' s' e' h3
      | ct t' => obtain ⟨e', h3, h4⟩ := h; rw [h4]; exact rFor_ok hg hb xs t' s' e' h3
      | bk t' => obtain ⟨e', h3, h4⟩ := h; rw [h4]; exact ⟨e', h3, rfl⟩
      | rt r =>
        obtain ⟨e', h3, h4⟩ := h
        rw [h4]
        refine ⟨e', h3, ?_⟩
        show (match (C.rt r).out e' with | .nx e2 => loopF g b (xs.map ea) e2 | .ct e2 => loopF g b (xs.map ea) e2 | .bk e2 => .nx e2 | o => o) = _
        cases C.rt r <;> rfl
    | ex c fs s' => rw [hm] at h; obtain ⟨e', h3, h4⟩ := h; rw [h4]; exact ⟨e', h3, rfl⟩
    | stuck => trivial
theorem rs_for {mi : QM S (List α)} {body : α → τ → QM S (Fl τ τ ρ)} {ea : α → PyData} {dl : DL} {g : DG} {b : DS} {I : τ → EP S} {B : α → τ → EP S} {t0 : τ} (hi : RE C.X E E1 mi (List.map ea) dl) (hl : ∀ s, Le (E1 s) (I t0 s)) (hg : ∀ x t, RG (I t) (B x t) (ea x) g) (hb : ∀ x t, SS ⟨C.X, I, C.rt, C.F⟩ (B x t) I (body x t) b) : SS C E I (rB mi fun xs => rFor body xs t0) (dFor dl g b) :=
  SS.go hi fun xs s e mt => rFor_ok hg hb xs t0 s e (mt.le (hl s))
def rWhN (c : τ → QM S Bool) (body : τ → QM S (Fl τ τ ρ)) : Nat → τ → QM S (Fl τ l ρ)
  | 0, _ => rX
  | n + 1, t => rB (c t) fun b => if b = true then rB (body t) fun fl => match fl with
    | .nx t' => rWhN c body n t'
    | .ct t' => rWhN c body n t'
    | .bk t' => rP (.nx t')
    | .rt r => rP (.rt r) else rP (.nx t)
open Classical in
noncomputable def rWh (c : τ → QM S Bool) (body : τ → QM S (Fl τ τ ρ)) (t : τ) : QM S (Fl τ l ρ) := fun s => if h : ∃ n, rWhN (l := l) c body n t s ≠ .stuck then rWhN c body h.choose t s else .stuck
theorem rWhN_up (c : τ → QM S Bool) (body : τ → QM S (Fl τ τ ρ)) : ∀ (n : Nat) (t : τ) (s : S), rWhN (l := l) c body n t s ≠ .stuck → ∀ m, n ≤ m → rWhN (l := l) c body m t s = rWhN c body n t s
  | 0, t, s, h, _, _ => absurd rfl h
  | n + 1, t, s, h, 0, hm => absurd hm (by omega)
  | n + 1, t, s, h, m + 1, hm => by
    unfold rWhN at h ⊢
    simp only [rB_ap] at h ⊢
    cases hc : c t s with
    | stuck => rfl
    | ex _ _ _ => rfl
    | ok b s1 =>
      rw [hc] at h
      simp only [R.bind_ok] at h ⊢
      cases b with
      | false => rfl
      | true =>
        simp only [if_true, rB_ap] at h ⊢
        cases hb : body t s1 with
        | stuck => rfl
        | ex _ _ _ => rfl
        | ok fl s2 =>
          rw [hb] at h
          simp only [R.bind_ok] at h ⊢
          cases fl with
          | nx t' => exact rWhN_up c body n t' s2 h m (by omega)
          | ct t' => exact rWhN_up c body n t' s2 h m (by omega)
          | bk t' => rfl
          | rt r => rfl
theorem rWh_of {c : τ → QM S Bool} {body : τ → QM S (Fl τ τ ρ)} {t : τ} {s : S} {n : Nat} {r : R S (Fl τ l ρ)} (h : rWhN c body n t s = r) (hr : r ≠ .stuck) : rWh c body t s = r := by
  have hn : rWhN (l := l) c body n t s ≠ .stuck := by rw [h]; exact hr
  have hex : ∃ n, rWhN (l := l) c body n t s ≠ .stuck := ⟨n, hn⟩
  unfold rWh
  rw [dif_pos hex]
  have h1 := hex.choose_spec
  rcases Nat.le_total n hex.choose with hl | hl
  · rw [rWhN_up c body n t s hn _ hl, h]
  · rw [← h]
    exact (rWhN_up c body _ t s h1 n hl).symm
theorem rWh_eq (c : τ → QM S Bool) (body : τ → QM S (Fl τ τ ρ)) (t : τ) (s : S) (h : rWh (l := l) c body t s ≠ .stuck ∨ True) : ∃ n, rWh (l := l) c body t s = rWhN c body n t s := by
  unfold rWh
  split
  · exact ⟨_, rfl⟩
  · exact ⟨0, rfl⟩
theorem rWhN_ok {c : τ → QM S Bool} {body : τ → QM S (Fl τ τ ρ)} {tst : DT} {b : DS} {I : τ → EP S} (hc : ∀ t, RE C.X (I t) (I t) (c t) id tst) (hb : ∀ t, SS ⟨C.X, I, C.rt, C.F⟩ (I t) I (body t) b) : ∀ (n : Nat) (t : τ), SS C (I t) I (rWhN c body n t) (whileN tst b n)
  | 0, t => fun s e mt => trivial
  | n + 1, t => fun s e mt => by
    have h := hc t s e mt
    unfold rWhN whileN
    rw [rB_ap]
    cases hm : c t s with
    | stuck => trivial
    | ex cc fs s' => rw [hm] at h; obtain ⟨e', h1, h2⟩ := h; rw [h2]; exact ⟨e', h1, rfl⟩
    | ok v s1 =>
      rw [hm] at h
      obtain ⟨e1, h1, h2⟩ := h
      rw [h2]
      simp only [R.bind_ok, Out.goS_ok, id_eq]
      cases v with
      | false => exact ⟨e1, h1, rfl⟩
      | true =>
        simp only [if_true, rB_ap]
        have h3 := hb t s1 e1 h1
        cases hm2 : body t s1 with
        | stuck => trivial
        | ex cc fs s' => rw [hm2] at h3; obtain ⟨e', h4, h5⟩ := h3; rw [h5]; exact ⟨e', h4, rfl⟩
        | ok fl s2 =>
          rw [hm2] at h3
          cases fl with
          | nx t' => obtain ⟨e', h4, h5⟩ := h3; rw [h5]; exact rWhN_ok hc hb n t' s2 e' h4
          | ct t' => obtain ⟨e', h4, h5⟩ := h3; rw [h5]; exact rWhN_ok hc hb n t' s2 e' h4
          | bk t' => obtain ⟨e', h4, h5⟩ := h3; rw [h5]; exact ⟨e', h4, rfl⟩
          | rt r =>
            obtain ⟨e', h4, h5⟩ := h3
            rw [h5]
            refine ⟨e', h4, ?_⟩
            show (match (C.rt r).out e' with | .nx e2 => whileN tst b n e2 | .ct e2 => whileN tst b n e2 | .bk e2 => .nx e2 | o => o) = _
            cases C.rt r <;> rfl
theorem SV.ns {m : R S (Fl τ l ρ)} {o : OutS} (h : SV C Et m o) (hm : m ≠ .stuck) : o ≠ .stuck := by
  cases m with
  | ok fl s => cases fl with
    | nx t => obtain ⟨e', _, h2⟩ := h; rw [h2]; intro z; cases z
    | bk t => obtain ⟨e', _, h2⟩ := h; rw [h2]; intro z; cases z
    | ct t => obtain ⟨e', _, h2⟩ := h; rw [h2]; intro z; cases z
    | rt r => obtain ⟨e', _, h2⟩ := h; rw [h2]; cases C.rt r <;> (intro z; cases z)
  | ex c fs s => obtain ⟨e', _, h2⟩ := h; rw [h2]; intro z; cases z
  | stuck => exact absurd rfl hm
theorem rs_while {c : τ → QM S Bool} {body : τ → QM S (Fl τ τ ρ)} {tst : DT} {b : DS} {I : τ → EP S} {t0 : τ} (hl : ∀ s, Le (E s) (I t0 s)) (hc : ∀ t, RE C.X (I t) (I t) (c t) id tst) (hb : ∀ t, SS ⟨C.X, I, C.rt, C.F⟩ (I t) I (body t) b) : SS C E I (rWh c body t0) (dWhile tst b) := fun s e mt => by
  obtain ⟨n, hn⟩ := rWh_eq (l := l) c body t0 s (.inr trivial)
  rw [hn]
  have h := rWhN_ok (C := C) hc hb n t0 s e (mt.le (hl s))
  cases hr : rWhN (l := l) c body n t0 s with
  | stuck => trivial
  | ok a s' =>
    have hh := h.ns (by rw [hr]; intro z; cases z)
    rw [dWhile_of hh, ← hr]
    exact h
  | ex a d s' =>
    have hh := h.ns (by rw [hr]; intro z; cases z)
    rw [dWhile_of hh, ← hr]
    exact h
def rRet (m : QM S (Fl τ Empty ρ)) : QM S ρ := rB m fun fl => match fl with
  | .rt r => rP r
  | _ => rX
def rRetN (z : ρ) (m : QM S (Fl τ Empty ρ)) : QM S ρ := rB m fun fl => match fl with
  | .rt r => rP r
  | .nx _ => rP z
  | _ => rX
@[simp] theorem rRet_rt (r : ρ) : rRet (rP (.rt r) : QM S (Fl τ Empty ρ)) = rP r := rfl
@[simp] theorem rRet_nx (t : τ) : rRet (rP (.nx t) : QM S (Fl τ Empty ρ)) = rX := rfl
@[simp] theorem rRetN_rt (z r : ρ) : rRetN z (rP (.rt r) : QM S (Fl τ Empty ρ)) = rP r := rfl
@[simp] theorem rRetN_nx (z : ρ) (t : τ) : rRetN z (rP (.nx t) : QM S (Fl τ Empty ρ)) = rP z := rfl
@[simp] theorem rRet_B (m : QM S α) (f : α → QM S (Fl τ Empty ρ)) : rRet (rB m f) = rB m fun a => rRet (f a) := rB_B _ _ _
@[simp] theorem rRetN_B (z : ρ) (m : QM S α) (f : α → QM S (Fl τ Empty ρ)) : rRetN z (rB m f) = rB m fun a => rRetN z (f a) := rB_B _ _ _
@[simp] theorem rRet_ite (c : Prop) [Decidable c] (a b : QM S (Fl τ Empty ρ)) : rRet (if c then a else b) = if c then rRet a else rRet b := by split <;> rfl
@[simp] theorem rRetN_ite (z : ρ) (c : Prop) [Decidable c] (a b : QM S (Fl τ Empty ρ)) : rRetN z (if c then a else b) = if c then rRetN z a else rRetN z b := by split <;> rfl
@[simp] theorem rRet_X : rRet (rX : QM S (Fl τ Empty ρ)) = rX := rfl
inductive Hd0 (S : Type) where
  | no
  | io (l : S → List PyData)
  | sc (ns : List Int)
def Hd0.as {S : Type} : Hd0 S → S → List Sl
  | .no, _ => []
  | .io l, s => [.io (l s)]
  | .sc ns, _ => [.sc ns]
def Hd0.ps {S : Type} : Hd0 S → S → List Pat
  | .no, _ => []
  | .io l, s => [.is (some (.io (l s)))]
  | .sc ns, _ => [.is (some (.sc ns))]
theorem backs_hd {h : Hd0 S} {s s' : S} {vs : List PyData} {e : En} {ps : List Pat} (mt : Mt (h.ps s' ++ ps) e) : ∃ as, backs (h.as s ++ vs.map Sl.pv) e = h.as s' ++ as := by
  unfold backs
  cases h with
  | no => exact ⟨_, rfl⟩
  | io l =>
    have he : e[0]? = some (some (.io (l s'))) := mt.is rfl
    refine ⟨List.mapIdx (fun i s => backAt s e[i + 1]?) (vs.map Sl.pv), ?_⟩
    show List.mapIdx _ (Sl.io (l s) :: vs.map Sl.pv) = [Sl.io (l s')] ++ _
    rw [List.mapIdx_cons, back_io he]
    rfl
  | sc ns =>
    refine ⟨List.mapIdx (fun i s => backAt s e[i + 1]?) (vs.map Sl.pv), ?_⟩
    show List.mapIdx _ (Sl.sc ns :: vs.map Sl.pv) = [Sl.sc ns] ++ _
    rw [List.mapIdx_cons, back_no rfl]
    rfl
theorem fn_V {h : Hd0 S} {C : Cq S Empty ρ} {enc : ρ → PyData} {m : QM S (Fl τ Empty ρ)} {b : DS} {n : Nat} {vs : List PyData} {ps qs : List Pat} (hb : SS C E Et m b) (hC : ∀ r, C.rt r = .v (enc r)) (hF : ∀ s, C.F s = h.ps s ++ ps) (hX : ∀ s, C.X s = h.ps s ++ qs) (s : S) (hE : Mt (E s) (slots (h.as s ++ vs.map .pv) ++ List.replicate (n - (h.as s ++ vs.map Sl.pv).length) none)) :
    RF h.as enc (rRet m s) (runF n b (h.as s ++ vs.map .pv)) := by
  have h1 := hb s _ hE
  unfold runF
  show RF h.as enc ((m s).bind _) _
  cases hm : m s with
  | stuck => trivial
  | ex c fs s' =>
    rw [hm] at h1
    obtain ⟨e', h2, h3⟩ := h1
    rw [h3]
    rw [hX] at h2
    obtain ⟨as, ha⟩ := backs_hd (s := s) (vs := vs) h2
    exact ⟨as, by rw [← ha]⟩
  | ok fl s' =>
    rw [hm] at h1
    cases fl with
    | nx t => trivial
    | bk t => cases t
    | ct t => cases t
    | rt r =>
      obtain ⟨e', h2, h3⟩ := h1
      rw [h3, hC]
      rw [hF] at h2
      obtain ⟨as, ha⟩ := backs_hd (s := s) (vs := vs) h2
      exact ⟨as, .inl (by rw [← ha]; rfl)⟩
theorem fn_N {h : Hd0 S} {C : Cq S Empty ρ} {enc : ρ → PyData} {m : QM S (Fl τ Empty ρ)} {b : DS} {n : Nat} {vs : List PyData} {z : ρ} {ps qs : List Pat} {rs : τ → S → List Pat} (hb : SS C E Et m b) (hC : ∀ r, C.rt r = .v (enc r)) (hF : ∀ s, C.F s = h.ps s ++ ps) (hX : ∀ s, C.X s = h.ps s ++ qs) (hz : enc z = .none) (hN : ∀ t s, Et t s = h.ps s ++ rs t s) (s : S) (hE : Mt (E s) (slots (h.as s ++ vs.map .pv) ++ List.replicate (n - (h.as s ++ vs.map Sl.pv).length) none)) :
    RF h.as enc (rRetN z m s) (runF n b (h.as s ++ vs.map .pv)) := by
  have h1 := hb s _ hE
  unfold runF
  show RF h.as enc ((m s).bind _) _
  cases hm : m s with
  | stuck => trivial
  | ex c fs s' =>
    rw [hm] at h1
    obtain ⟨e', h2, h3⟩ := h1
    rw [h3]
    rw [hX] at h2
    obtain ⟨as, ha⟩ := backs_hd (s := s) (vs := vs) h2
    exact ⟨as, by rw [← ha]⟩
  | ok fl s' =>
    rw [hm] at h1
    cases fl with
    | nx t =>
      obtain ⟨e', h2, h3⟩ := h1
      rw [h3]
      rw [hN] at h2
      obtain ⟨as, ha⟩ := backs_hd (s := s) (vs := vs) h2
      exact ⟨as, .inl (by rw [← ha, hz])⟩
    | bk t => cases t
    | ct t => cases t
    | rt r =>
      obtain ⟨e', h2, h3⟩ := h1
      rw [h3, hC]
      rw [hF] at h2
      obtain ⟨as, ha⟩ := backs_hd (s := s) (vs := vs) h2
      exact ⟨as, .inl (by rw [← ha]; rfl)⟩
end
end TL

namespace TL
open PySem PySem.Spec PyProof.Rows L2
section
variable {S α β γ ρ A B : Type} {X E E1 E2 E3 : EP S}
def asB : PyData → Option Bool
  | .bool b => some b
  | _ => none
def oB {α β : Type} (g : PyData → PyData → Option PyData) (e1 : α → PyData) (e2 : β → PyData) (x : α) (y : β) : Option Bool := (g (e1 x) (e2 y)).bind asB
theorem ot_B {g : PyData → PyData → Option PyData} {e1 : α → PyData} {e2 : β → PyData} : OpT g e1 e2 eB (oB g e1 e2) := fun x y z h => by
  unfold oB at h
  rw [Option.bind_eq_some_iff] at h
  obtain ⟨v, h1, h2⟩ := h
  cases v <;> cases h2
  exact h1
def rCh (f : α → β → Option Bool) (f' : β → γ → Option Bool) (a : QM S α) (b : QM S β) (c : QM S γ) : QM S Bool := rB a fun x => rB b fun y => rB (rO (f x y)) fun t => if t = true then rB c fun z => rO (f' y z) else rP false
@[simp] theorem rCh_P (f : α → β → Option Bool) (f' : β → γ → Option Bool) (x : α) (y : β) (c : QM S γ) : rCh f f' (rP x) (rP y) c = rB (rO (f x y)) fun t => if t = true then rB c fun z => rO (f' y z) else rP false := rfl
theorem re_chain {g g' : PyData → PyData → Option PyData} {e1 : α → PyData} {e2 : β → PyData} {e3 : γ → PyData} {f : α → β → Option Bool} {f' : β → γ → Option Bool} {m : QM S α} {n : QM S β} {k : QM S γ} {a b c : D} (ho : OpT g e1 e2 eB f) (ho' : OpT g' e2 e3 eB f') (ha : RE X E E1 m e1 a) (hb : RE X E1 E2 n e2 b) (hc : RE X E2 E2 k e3 c) : RE X E E2 (rCh f f' m n k) eB (dChain g g' a b c) :=
  ha.bind fun x => hb.bind fun y s e mt => by
    dsimp only
    cases hf : f x y with
    | none => trivial
    | some t =>
      rw [ho x y t hf]
      cases t with
      | false => exact ⟨e, mt, rfl⟩
      | true => exact (hc.bind (k := fun z => rO (f' y z)) (f := fun (z, e3) => (Out.of (g' (e2 y) z)).bind fun s => .ok (s, e3)) fun z => RE.opt fun w hw => ho' y z w hw) s e mt
def cutT (xs : List α) (lo hi : Option Int) : List α := (xs.drop (HT.sIx xs.length 0 lo)).take (HT.sIx xs.length xs.length hi - HT.sIx xs.length 0 lo)
theorem cutT_map {e : α → PyData} (xs : List α) (lo hi : Option Int) : cutD (xs.map e) lo hi = (cutT xs lo hi).map e := by
  unfold cutD cutT
  rw [List.length_map, List.map_take, List.map_drop]
theorem rop_no : RE X E E (rP (none : Option Int)) id dNoP := RE.pure rfl
theorem rop_of {m : QM S Int} {d : D} (h : RE X E E1 m eI d) : RE X E E1 (rM some m) id (dPrt d) := h.bind fun x => RE.pure rfl
def rSl (m : QM S (List α)) (a b : QM S (Option Int)) : QM S (List α) := rB m fun xs => rB a fun lo => rB b fun hi => rP (cutT xs lo hi)
@[simp] theorem rSl_P (xs : List α) (a b : Option Int) : (rSl (rP xs) (rP a) (rP b) : QM S (List α)) = rP (cutT xs a b) := rfl
theorem re_slL {enc : α → PyData} {m : QM S (List α)} {a b : QM S (Option Int)} {d : D} {l h : DOp} (hd : RE X E E1 m (eL enc) d) (ha : RE X E1 E2 a id l) (hb : RE X E2 E3 b id h) : RE X E E3 (rSl m a b) (eL enc) (dSl d l h) :=
  hd.bind fun xs => ha.bind fun lo => hb.bind fun hi s e mt => ⟨e, mt, by
    show Out.ok (PyData.list (cutD (xs.map enc) lo hi), e) = _
    rw [cutT_map]⟩
theorem re_slT {enc : α → PyData} {m : QM S (List α)} {a b : QM S (Option Int)} {d : D} {l h : DOp} (hd : RE X E E1 m (eTL enc) d) (ha : RE X E1 E2 a id l) (hb : RE X E2 E3 b id h) : RE X E E3 (rSl m a b) (eTL enc) (dSl d l h) :=
  hd.bind fun xs => ha.bind fun lo => hb.bind fun hi s e mt => ⟨e, mt, by
    show Out.ok (PyData.tuple (cutD (xs.map enc) lo hi), e) = _
    rw [cutT_map]⟩
def rApp (m n : QM S (List α)) : QM S (List α) := rB m fun xs => rB n fun ys => rP (xs ++ ys)
@[simp] theorem rApp_P (m n : List α) : (rApp (rP m) (rP n) : QM S (List α)) = rP (m ++ n) := rfl
def rLen (m : QM S (List α)) : QM S (List α) := rB m fun xs => if xs.length ≤ sizeLine then rP xs else rX
@[simp] theorem rLen_P (xs : List α) : (rLen (rP xs) : QM S (List α)) = if xs.length ≤ sizeLine then rP xs else rX := rfl
theorem rf_listT {enc : α → PyData} {m : QM S (List α)} {d : D} (h : RE X E E1 m (fun x => [eTL enc x]) (dArgs [d])) : RE X E E1 m (List.map enc) (dListF d) := fun s e mt => by
  have := h s e mt
  show RV X E1 _ (m s) ((dArgs [d] e).bind _)
  cases hm : m s with
  | ok x s' => rw [hm] at this; obtain ⟨e', h1, h2⟩ := this; rw [h2]; exact ⟨e', h1, rfl⟩
  | ex c fs s' => rw [hm] at this; obtain ⟨e', h1, h2⟩ := this; rw [h2]; exact ⟨e', h1, rfl⟩
  | stuck => trivial
end
def mTake (t : Int) : QM Src Int := fun s => if 0 < t ∧ t.natAbs.log2 < 9000 then .ok (s.draw t).1 (s.draw t).2 else .stuck
def mOne {α : Type} (xs : List α) : QM Src α := fun s => if xs.length ≤ 1000000 then match xs[(s.one xs.length).1]? with
  | some x => .ok x (s.one xs.length).2
  | none => .stuck else .stuck
theorem RF_take (t : Int) (s : Src) : RF (fun s => [Sl.io s.l]) eI (mTake t s) (FTake [.io s.l, .pv (.int t)]) := by
  unfold mTake
  split
  · rename_i h
    exact ⟨[.pv (.int t)], .inl (take_eq s t h.1 h.2)⟩
  · trivial
theorem RF_one {α : Type} {e : α → PyData} (xs : List α) (s : Src) : RF (fun s => [Sl.io s.l]) e (mOne xs s) (FOne [.io s.l, .pv (eL e xs)]) := by
  unfold mOne
  split
  · rename_i hz
    by_cases h0 : 0 < xs.length
    · have hlt := s.one_lt h0
      rw [List.getElem?_eq_getElem hlt]
      refine ⟨[.pv (.list (xs.map e))], .inl ?_⟩
      have := one_eq s (xs.map e) (by simpa using h0) (by simpa using hz)
      rw [List.length_map] at this
      rw [this]
      congr 1
      rw [List.getD_eq_getElem?_getD, List.getElem?_map, List.getElem?_eq_getElem hlt]
      rfl
    · have : xs = [] := List.length_eq_zero_iff.mp (by omega)
      subst this
      trivial
  · trivial
def rPool {τ l ρ : Type} (ns : List Int) (m : QM Src Int) : QM Src (Fl Unit l ρ) := rB m fun k => fun _ => if 0 ≤ k ∧ k ≤ 1000 then .ok (.nx ()) (pool ns k.toNat) else .stuck
theorem rs_pool {l ρ τ : Type} {C : Cq Src l ρ} {E E1 E2 : EP Src} {i ip : Nat} {ns : List Int} {F : Fn} {m : QM Src Int} {d : D} (hF : ∀ k : Nat, k ≤ 1000 → F [.sc ns, .pv (.int k)] = .fresh (pool ns k).l [.sc ns, .pv (.int k)]) (h0 : ∀ s, (E s)[ip]? = some (.is (some (.sc ns)))) (h : RE C.X E E1 m eI d) (h1 : ∀ s, (E1 s)[ip]? = some (.is (some (.sc ns)))) (hf : ∀ s, ∃ p, (E1 s)[i]? = some p ∧ p.free = true) (h2 : ∀ s s', (E1 s).set i (.is (some (.ow (Src.l s')))) = E2 s') :
    SS C E (fun _ => E2) (rPool (τ := τ) ns m) (dAsgO i (fCallS F ip [d])) := fun s e mt => by
  have := h s e mt
  show SV C _ ((m s).bind _) ((fCallS F ip [d] e).goS _)
  unfold fCallS
  have r0 : refAt e ip = some (.sc ns) := by unfold refAt; rw [mt.is (h0 s)]
  rw [r0]
  simp only [Out.of_some, Out.bind_ok, ap_args_cons, ap_args_nil]
  cases hm : m s with
  | stuck => trivial
  | ex c fs s' =>
    rw [hm] at this
    obtain ⟨e', h3, h4⟩ := this
    rw [h4]
    exact ⟨e', h3, rfl⟩
  | ok k s' =>
    rw [hm] at this
    obtain ⟨e', h3, h4⟩ := this
    rw [h4]
    simp only [R.bind_ok, Out.bind_ok]
    have r1 : refAt e' ip = some (.sc ns) := by unfold refAt; rw [h3.is (h1 s')]
    rw [r1]
    by_cases hk : 0 ≤ k ∧ k ≤ 1000
    · rw [if_pos hk]
      have hkk : ((k.toNat : Nat) : Int) = k := Int.toNat_of_nonneg hk.1
      have hf' := hF k.toNat (by omega)
      rw [hkk] at hf'
      simp only [Out.of_some, Out.bind_ok, List.map_cons, List.map_nil]
      rw [hf']
      obtain ⟨p, hp, hfr⟩ := hf s'
      refine ⟨e'.set i (some (.ow (pool ns k.toNat).l)), ?_, ?_⟩
      · have := h3.set i (p := .is (some (.ow (Src.l (pool ns k.toNat))))) (x := some (.ow (Src.l (pool ns k.toNat)))) rfl
        rw [h2] at this
        exact this
      · show Out.ofS (setOw e' i _) _ = _
        unfold setOw
        rw [if_pos (h3.fr hp hfr)]
        rfl
    · rw [if_neg hk]
      trivial
end TL

namespace TL
open PySem PySem.Spec PyProof.Rows L2
section
variable {S α β γ ρ l A B : Type} {X E E1 E2 E3 : EP S}
theorem re_tuple {enc : α → PyData} {m : QM S (List α)} {d : D} (h : RE X E E1 m (eL enc) d) : RE X E E1 m (eTL enc) (dCB pyTuple [d]) := fun s e mt => by
  have := ra_1 h s e mt
  show RV X E1 _ (m s) ((dArgs [d] e).bind _)
  cases hm : m s with
  | ok x s' => rw [hm] at this; obtain ⟨e', h1, h2⟩ := this; rw [h2]; exact ⟨e', h1, rfl⟩
  | ex c fs s' => rw [hm] at this; obtain ⟨e', h1, h2⟩ := this; rw [h2]; exact ⟨e', h1, rfl⟩
  | stuck => trivial
theorem rs_passT {τ : Type} {C : Cq S l ρ} {E : EP S} {Et : τ → EP S} {t : τ} (hl : ∀ s, Le (E s) (Et t s)) : SS C E Et (rP (.nx t)) dPass := fun s e mt => ⟨e, mt.le (hl s), rfl⟩
end
end TL

namespace TL
open PySem PySem.Spec PyProof.Rows L2
section
variable {S τ τ2 l ρ α β γ : Type}
@[simp] theorem rC_B (g : γ → R Unit ρ) (m : QM S α) (f : α → QM S γ) : rC g (rB m f) = rB m fun a => rC g (f a) := rB_B _ _ _
end
abbrev Pt := Int × Int
def SzP (k : Nat) (p : Pt) : Prop := Sz k p.1 ∧ Sz k p.2
theorem SzP.mono {j k : Nat} {p : Pt} (h : SzP j p) (hk : j ≤ k) : SzP k p := ⟨h.1.mono hk, h.2.mono hk⟩
theorem oMul_of {x y : Int} (h : MulOk x y) : oMul x y = some (x * y) := if_pos h
theorem oMul_sz {j k : Nat} {x y : Int} (h1 : Sz j x) (h2 : Sz k y) (hj : 0 < j := by decide) (hk : 0 < k := by decide) (h : j + k ≤ 1000000 := by decide) : oMul x y = some (x * y) := oMul_of (h1.mulOk h2 hj hk h)
theorem oDiv_pos {x y : Int} (h : 0 < y) (hl : y.natAbs.log2 < 9000) : oDiv x y = some (x / y) := by
  unfold oDiv
  rw [if_pos ⟨by omega, hl⟩]
  congr 1
  exact Int.fdiv_eq_ediv_of_nonneg _ (by omega)
theorem shp_int (n : Int) : SeqAt.shaped (.int n) = true := by
  simp [SeqAt.shaped, PyData.canLay0, PyData.depth]
  try decide +kernel
@[simp] theorem oEq_int (x y : Int) : oEq eI eI x y = some (decide (x = y)) := by
  unfold oEq
  rw [if_pos ⟨shp_int x, shp_int y⟩]
  congr 1
@[simp] theorem oNe_int (x y : Int) : oNe eI eI x y = some (decide (x ≠ y)) := by
  unfold oNe
  rw [if_pos ⟨shp_int x, shp_int y⟩]
  congr 1
  rw [Bool.eq_iff_iff, decide_eq_true_eq]
  simp [PyData.eqv]
@[simp] theorem oEq_bool (x y : Bool) : oEq eB eB x y = some (decide (x = y)) := by cases x <;> cases y <;> rfl
@[simp] theorem oNe_bool (x y : Bool) : oNe eB eB x y = some (decide (x ≠ y)) := by cases x <;> cases y <;> rfl
@[simp] theorem oEq_pt (x y : Pt) : oEq (eT2 eI eI) (eT2 eI eI) x y = some (decide (x = y)) := by
  unfold oEq
  rw [if_pos ⟨shp_pair _ _, shp_pair _ _⟩]
  congr 1
  rw [Bool.eq_iff_iff, decide_eq_true_eq, Prod.ext_iff]
  simp [PyData.eqv, PyData.eqvAll]
@[simp] theorem oNe_pt (x y : Pt) : oNe (eT2 eI eI) (eT2 eI eI) x y = some (decide (x ≠ y)) := by
  unfold oNe
  rw [if_pos ⟨shp_pair _ _, shp_pair _ _⟩]
  congr 1
  rw [Bool.eq_iff_iff, decide_eq_true_eq, Ne, Prod.ext_iff]
  simp [PyData.eqv, PyData.eqvAll]
  omega
section
variable {S τ l ρ α β : Type}
theorem rFor_fold {body : α → τ → QM S (Fl τ τ ρ)} {f : τ → α → τ} {I : List α → τ → Prop} : ∀ (xs : List α) (t : τ), I xs t → (∀ x r t, I (x :: r) t → body x t = rP (.nx (f t x)) ∧ I r (f t x)) → (rFor body xs t : QM S (Fl τ l ρ)) = rP (.nx (xs.foldl f t))
  | [], t, _, _ => rfl
  | x :: xs, t, h, hs => by
    obtain ⟨h1, h2⟩ := hs x xs t h
    rw [rFor_cons, h1, rB_P]
    exact rFor_fold xs (f t x) h2 hs
theorem rFor_inv {body : α → τ → QM S (Fl τ τ ρ)} {I : List α → τ → Prop} : ∀ (xs : List α) (t : τ) (s : S), I xs t → (∀ x r t s, I (x :: r) t → ∃ t' s', body x t s = .ok (.nx t') s' ∧ I r t') → ∃ t' s', (rFor body xs t : QM S (Fl τ l ρ)) s = .ok (.nx t') s' ∧ I [] t'
  | [], t, s, h, _ => ⟨t, s, rfl, h⟩
  | x :: xs, t, s, h, hs => by
    obtain ⟨t', s', h1, h2⟩ := hs x xs t s h
    obtain ⟨t2, s2, h3, h4⟩ := rFor_inv xs t' s' h2 hs
    refine ⟨t2, s2, ?_, h4⟩
    rw [rFor_cons, rB_ok h1]
    exact h3
theorem rWhN_go {c : τ → QM S Bool} {body : τ → QM S (Fl τ τ ρ)} {I : τ → Prop} {μ : τ → Nat} : ∀ (n : Nat) (t : τ) (s : S), μ t < n → I t →
    (∀ t s, I t → (c t s = .ok false s) ∨ (c t s = .ok true s ∧ ∃ t' s', body t s = .ok (.nx t') s' ∧ I t' ∧ μ t' < μ t)) → ∃ t' s', (rWhN c body n t : QM S (Fl τ l ρ)) s = .ok (.nx t') s' ∧ I t' ∧ c t' s' = .ok false s'
  | 0, t, s, hm, _, _ => absurd hm (by omega)
  | n + 1, t, s, hm, hI, hs => by
    rcases hs t s hI with h | ⟨h, t', s', hb, hI', hμ⟩
    · refine ⟨t, s, ?_, hI, h⟩
      unfold rWhN
      rw [rB_ok h]
      rfl
    · obtain ⟨t2, s2, h1, h2, h3⟩ := rWhN_go n t' s' (by omega) hI' hs
      refine ⟨t2, s2, ?_, h2, h3⟩
      unfold rWhN
      rw [rB_ok h, if_pos rfl, rB_ok hb]
      exact h1
theorem rWh_inv {c : τ → QM S Bool} {body : τ → QM S (Fl τ τ ρ)} (I : τ → Prop) (μ : τ → Nat) (t : τ) (s : S) (hI : I t) (hs : ∀ t s, I t → (c t s = .ok false s) ∨ (c t s = .ok true s ∧ ∃ t' s', body t s = .ok (.nx t') s' ∧ I t' ∧ μ t' < μ t)) :
    ∃ t' s', (rWh c body t : QM S (Fl τ l ρ)) s = .ok (.nx t') s' ∧ I t' ∧ c t' s' = .ok false s' := by
  obtain ⟨t', s', h1, h2, h3⟩ := rWhN_go (l := l) (μ t + 1) t s (Nat.lt_succ_self _) hI hs
  exact ⟨t', s', rWh_of h1 (by intro z; cases z), h2, h3⟩
theorem rWh_pure {c : τ → QM S Bool} {body : τ → QM S (Fl τ τ ρ)} (P : τ → τ → Prop) (μ : τ → Nat) (hs : ∀ t, (∃ e, P t e) → (c t = rP false ∧ P t t ∧ ∀ e, P t e → e = t) ∨ (c t = rP true ∧ ∃ t', body t = rP (.nx t') ∧ (∀ e, P t e → P t' e) ∧ μ t' < μ t)) (t e : τ) (h : P t e) : (rWh c body t : QM S (Fl τ l ρ)) = rP (.nx e) := by
  funext s
  obtain ⟨t', s', h1, h2, h3⟩ := rWh_inv (l := l) (c := c) (body := body) (fun u => P u e) μ t s h (fun u s hu => by
    rcases hs u ⟨e, hu⟩ with ⟨h1, _, _⟩ | ⟨h1, u', h2, h3, h4⟩
    · exact .inl (by rw [h1]; rfl)
    · exact .inr ⟨by rw [h1]; rfl, u', s, by rw [h2]; rfl, h3 e hu, h4⟩)
  rcases hs t' ⟨e, h2⟩ with ⟨_, _, h4⟩ | ⟨h4, _⟩
  · have := h4 e h2
    subst this
    -- the state has not changed: no draws
    have key : ∀ n u s2 a s3, (rWhN c body n u : QM S (Fl τ l ρ)) s2 = .ok a s3 → (∃ e, P u e) → s3 = s2 := by
      intro n
      induction n with
      | zero => intro u s2 a s3 hh; cases hh
      | succ n ih =>
        intro u s2 a s3 hh hu
        unfold rWhN at hh
        obtain ⟨e0, he0⟩ := hu
        rcases hs u ⟨e0, he0⟩ with ⟨h1, _, _⟩ | ⟨h1, u', h2, h3, h4⟩
        · rw [h1, rB_P, if_neg (by decide)] at hh
          cases hh
          rfl
        · rw [h1, rB_P, if_pos rfl, h2, rB_P] at hh
          exact ih u' s2 a s3 hh ⟨e0, h3 e0 he0⟩
    obtain ⟨n, hn⟩ := rWh_eq (l := l) c body t s (.inr trivial)
    rw [hn] at h1
    have := key n t s _ _ h1 ⟨_, h⟩
    rw [hn, h1, this]
    rfl
  · rw [h4] at h3
    cases h3
theorem rSq_fold {τ2 : Type} {body : α → τ → QM S (Fl τ τ ρ)} (f : τ → α → τ) (I : List α → τ → Prop) {xs : List α} {t : τ} {K : τ → QM S (Fl τ2 l ρ)} (h : I xs t) (hs : ∀ x r t, I (x :: r) t → body x t = rP (.nx (f t x)) ∧ I r (f t x)) : rSq (rFor body xs t) K = K (xs.foldl f t) := by
  rw [rFor_fold xs t h hs]
  rfl
end
theorem mTake_ok {t : Int} (h : 0 < t) (hl : t.natAbs.log2 < 9000) (s : Src) : ∃ v s', mTake t s = .ok v s' ∧ 0 ≤ v ∧ v < t := ⟨_, _, if_pos ⟨h, hl⟩, s.draw_nn h, s.draw_lt h⟩
theorem mOne_ok {α : Type} {xs : List α} (h : xs ≠ []) (hz : xs.length ≤ 1000000) (s : Src) : ∃ v s', mOne xs s = .ok v s' ∧ v ∈ xs := by
  have h0 : 0 < xs.length := List.length_pos_iff.mpr h
  have hlt := s.one_lt h0
  unfold mOne
  rw [if_pos hz, List.getElem?_eq_getElem hlt]
  exact ⟨_, _, rfl, List.getElem_mem _⟩
theorem size_small {n : Nat} (h : n ≤ 100000) : n ≤ sizeLine := Nat.le_trans h (by decide +kernel)
theorem law_rf {ns : List Int} {m : R Src Bool} {o : OutF} {s' : Src} (h : RF (fun _ => [Sl.sc ns]) eB m o) (hm : m = .ok true s') : ∃ as', o = .val (.bool true) as' := by
  subst hm
  obtain ⟨as, h1 | ⟨ds, h1, h2⟩⟩ := h
  · exact ⟨_, h1⟩
  · cases h2
end TL
namespace TL
open PySem PySem.Spec PyProof.Rows L2
section
variable {S τ l ρ α β : Type}
def Wl (m : QM S α) (s : S) (Q : α → Prop) : Prop := ∃ a s', m s = .ok a s' ∧ Q a
theorem Wl.bind {m : QM S α} {k : α → QM S β} {s : S} {Q : α → Prop} {Q' : β → Prop} (h : Wl m s Q) (hk : ∀ a s', Q a → Wl (k a) s' Q') : Wl (rB m k) s Q' := by
  obtain ⟨a, s1, h1, h2⟩ := h
  obtain ⟨b, s2, h3, h4⟩ := hk a s1 h2
  exact ⟨b, s2, by rw [rB_ok h1, h3], h4⟩
theorem Wl.pure {a : α} {s : S} {Q : α → Prop} (h : Q a) : Wl (rP a) s Q := ⟨a, s, rfl, h⟩
theorem Wl.imp {m : QM S α} {s : S} {Q Q' : α → Prop} (h : Wl m s Q) (i : ∀ a, Q a → Q' a) : Wl m s Q' := by
  obtain ⟨a, s', h1, h2⟩ := h
  exact ⟨a, s', h1, i a h2⟩
theorem Wl.take {t : Int} {s : Src} (h : 0 < t) (hl : t.natAbs.log2 < 9000) : Wl (mTake t) s (fun v => 0 ≤ v ∧ v < t) := mTake_ok h hl s
theorem Wl.one {xs : List α} {s : Src} (h : xs ≠ []) (hz : xs.length ≤ 1000000) : Wl (mOne xs) s (fun v => v ∈ xs) := mOne_ok h hz s
theorem Wl.for {body : α → τ → QM S (Fl τ τ ρ)} (I : List α → τ → Prop) {xs : List α} {t : τ} {s : S} (h : I xs t) (hs : ∀ x r t s, I (x :: r) t → Wl (body x t) s fun fl => ∃ t', fl = .nx t' ∧ I r t') : Wl (rFor body xs t : QM S (Fl τ l ρ)) s fun fl => ∃ t', fl = .nx t' ∧ I [] t' := by
  obtain ⟨t', s', h1, h2⟩ := rFor_inv (l := l) xs t s h fun x r t s hx => by
    obtain ⟨fl, s', h1, t', rfl, h3⟩ := hs x r t s hx
    exact ⟨t', s', h1, h3⟩
  exact ⟨_, s', h1, t', rfl, h2⟩
end
theorem rSq_pool {τ l ρ τ2 : Type} {ns : List Int} {k : Int} (h : 0 ≤ k ∧ k ≤ 1000) (K : Unit → QM Src (Fl τ2 l ρ)) (s : Src) : rSq (rPool (τ := τ) ns (rP k)) K s = K () (pool ns k.toNat) := by
  show ((rPool (τ := τ) ns (rP k) : QM Src (Fl Unit l ρ)) s).bind _ = _
  unfold rPool
  rw [rB_P, if_pos h]
  rfl
end TL

namespace TL
open PySem PySem.Spec PyProof.Rows L2
def upB (a b : Int) : Bool := decide (0 < b) || ((b == 0) && decide (0 < a))
def aheadB (a b c d : Int) : Bool := if upB a b = upB c d then decide (0 < a * d - b * c) else upB a b
def alikeB (a b c d : Int) : Bool := (a * d - b * c == 0) && decide (0 < a * c + b * d)
def qn (a b : Int) : Int := if 0 < a ∧ 0 ≤ b then 0 else if a ≤ 0 ∧ 0 < b then 1 else if a < 0 ∧ b ≤ 0 then 2 else 3
def qf (a b : Int) : Int := if 0 < a ∧ 0 ≤ b then b else if a ≤ 0 ∧ 0 < b then -a else if a < 0 ∧ b ≤ 0 then -b else a
def qs (a b : Int) : Int := if 0 < a ∧ 0 ≤ b then a else if a ≤ 0 ∧ 0 < b then b else if a < 0 ∧ b ≤ 0 then -a else -b
def sgn (x : Int) : Int := (if 0 < x then 1 else 0) - (if x < 0 then 1 else 0)
def turn (a b c d : Int) : Int := if qn a b = qn c d then sgn (qf a b * qs c d - qf c d * qs a b) else if qn a b < qn c d then -1 else 1
theorem quart (a b : Int) (h : ¬ (a = 0 ∧ b = 0)) : (0 < a ∧ 0 ≤ b ∧ qn a b = 0 ∧ qf a b = b ∧ qs a b = a ∧ upB a b = true) ∨ (a ≤ 0 ∧ 0 < b ∧ qn a b = 1 ∧ qf a b = -a ∧ qs a b = b ∧ upB a b = true) ∨
    (a < 0 ∧ b ≤ 0 ∧ qn a b = 2 ∧ qf a b = -b ∧ qs a b = -a ∧ upB a b = false) ∨ (0 ≤ a ∧ b < 0 ∧ qn a b = 3 ∧ qf a b = a ∧ qs a b = -b ∧ upB a b = false) := by
  unfold qn qf qs upB
  by_cases h1 : 0 < a
  · by_cases h2 : 0 ≤ b
    · refine .inl ⟨h1, h2, ?_⟩
      by_cases h3 : b = 0
      · simp [h1, h2, h3]
      · have : 0 < b := by omega
        simp [h1, h2, this]
    · refine .inr (.inr (.inr ⟨by omega, by omega, ?_⟩))
      have h3 : ¬ a ≤ 0 := by omega
      have h4 : ¬ a < 0 := by omega
      have h5 : ¬ 0 < b := by omega
      have h6 : b ≠ 0 := by omega
      simp [h2, h3, h4, h5, h6]
  · by_cases h2 : 0 < b
    · refine .inr (.inl ⟨by omega, h2, ?_⟩)
      have h3 : a ≤ 0 := by omega
      simp [h1, h2, h3]
    · by_cases h5 : a < 0
      · refine .inr (.inr (.inl ⟨h5, by omega, ?_⟩))
        have h6 : b ≤ 0 := by omega
        simp [h1, h2, h5, h6]
      · refine .inr (.inr (.inr ⟨by omega, by omega, ?_⟩))
        have h6 : b ≠ 0 := by omega
        simp [h1, h2, h5, h6]
theorem sgn_neg (x : Int) : (sgn x < 0 ↔ x < 0) ∧ (sgn x = 0 ↔ x = 0) := by
  unfold sgn
  constructor <;> split <;> split <;> omega
set_option maxHeartbeats 0 in
theorem turn_spec (a b c d : Int) (h1 : ¬ (a = 0 ∧ b = 0)) (h2 : ¬ (c = 0 ∧ d = 0)) : (turn a b c d < 0 ↔ aheadB a b c d = true) ∧ (turn a b c d = 0 ↔ alikeB a b c d = true) := by
  have e1 : c * b = b * c := Int.mul_comm _ _
  have e2 : d * a = a * d := Int.mul_comm _ _
  unfold turn aheadB alikeB
  rcases quart a b h1 with ⟨p1, p2, p3, p4, p5, p6⟩ | ⟨p1, p2, p3, p4, p5, p6⟩ | ⟨p1, p2, p3, p4, p5, p6⟩ | ⟨p1, p2, p3, p4, p5, p6⟩ <;>
  rcases quart c d h2 with ⟨q1, q2, q3, q4, q5, q6⟩ | ⟨q1, q2, q3, q4, q5, q6⟩ | ⟨q1, q2, q3, q4, q5, q6⟩ | ⟨q1, q2, q3, q4, q5, q6⟩ <;>
  (rw [p3, p4, p5, p6, q3, q4, q5, q6]
   (first | have P1 : 0 ≤ a := by omega | have P1 : a ≤ 0 := by omega)
   (first | have P2 : 0 ≤ b := by omega | have P2 : b ≤ 0 := by omega)
   (first | have Q1 : 0 ≤ c := by omega | have Q1 : c ≤ 0 := by omega)
   (first | have Q2 : 0 ≤ d := by omega | have Q2 : d ≤ 0 := by omega)
   (first | have f1 := Int.mul_pos p1 q2 | have f1 := Int.mul_pos_of_neg_of_neg p1 q2 | have f1 := Int.mul_neg_of_pos_of_neg p1 q2 | have f1 := Int.mul_neg_of_neg_of_pos p1 q2 | have f1 := Int.mul_nonneg P1 Q2 | have f1 := Int.mul_nonneg_of_nonpos_of_nonpos P1 Q2 | have f1 := Int.mul_nonpos_of_nonneg_of_nonpos P1 Q2 | have f1 := Int.mul_nonpos_of_nonpos_of_nonneg P1 Q2)
   (first | have f2 := Int.mul_pos p2 q1 | have f2 := Int.mul_pos_of_neg_of_neg p2 q1 | have f2 := Int.mul_neg_of_pos_of_neg p2 q1 | have f2 := Int.mul_neg_of_neg_of_pos p2 q1 | have f2 := Int.mul_nonneg P2 Q1 | have f2 := Int.mul_nonneg_of_nonpos_of_nonpos P2 Q1 | have f2 := Int.mul_nonpos_of_nonneg_of_nonpos P2 Q1 | have f2 := Int.mul_nonpos_of_nonpos_of_nonneg P2 Q1)
   (first | have f3 := Int.mul_pos p1 q1 | have f3 := Int.mul_pos_of_neg_of_neg p1 q1 | have f3 := Int.mul_neg_of_pos_of_neg p1 q1 | have f3 := Int.mul_neg_of_neg_of_pos p1 q1 | have f3 := Int.mul_nonneg P1 Q1 | have f3 := Int.mul_nonneg_of_nonpos_of_nonpos P1 Q1 | have f3 := Int.mul_nonpos_of_nonneg_of_nonpos P1 Q1 | have f3 := Int.mul_nonpos_of_nonpos_of_nonneg P1 Q1)
   (first | have f4 := Int.mul_pos p2 q2 | have f4 := Int.mul_pos_of_neg_of_neg p2 q2 | have f4 := Int.mul_neg_of_pos_of_neg p2 q2 | have f4 := Int.mul_neg_of_neg_of_pos p2 q2 | have f4 := Int.mul_nonneg P2 Q2 | have f4 := Int.mul_nonneg_of_nonpos_of_nonpos P2 Q2 | have f4 := Int.mul_nonpos_of_nonneg_of_nonpos P2 Q2 | have f4 := Int.mul_nonpos_of_nonpos_of_nonneg P2 Q2)
   simp only [Int.neg_mul, Int.mul_neg, Int.neg_neg, e1, e2]
   generalize a * d = X at *
   generalize b * c = Y at *
   generalize a * c = P at *
   generalize b * d = R at *
   clear p3 p4 p5 p6 q3 q4 q5 q6 h1 h2 e1 e2
   simp [(sgn_neg _).1, (sgn_neg _).2]
   try omega)
end TL

namespace TL
section
variable {α : Type} (lt : α → α → Bool) (P : α → Prop)
structure Weak : Prop where
  tr : ∀ p q r, P p → P q → P r → lt q p = false → lt r q = false → lt r p = false
  asy : ∀ p q, P p → P q → lt p q = true → lt q p = false
variable {lt P}
theorem Weak.irr (W : Weak lt P) {p : α} (h : P p) : lt p p = false := by
  cases e : lt p p with
  | false => rfl
  | true => exact absurd (W.asy p p h h e) (by rw [e]; decide)
variable (lt)
def Srt (xs : List α) : Prop := xs.Pairwise fun a b => lt b a = false
def cls (v : α) (xs : List α) : List α := xs.filter fun a => !lt a v && !lt v a
variable {lt}
theorem cls_nil (v : α) : cls lt v [] = [] := rfl
theorem cls_app (v : α) (xs ys : List α) : cls lt v (xs ++ ys) = cls lt v xs ++ cls lt v ys := List.filter_append ..
theorem cls_pos {v x : α} (h : (!lt x v && !lt v x) = true) (xs : List α) : cls lt v (x :: xs) = x :: cls lt v xs := List.filter_cons_of_pos (p := fun a => !lt a v && !lt v a) h
theorem cls_neg {v x : α} (h : ¬ (!lt x v && !lt v x) = true) (xs : List α) : cls lt v (x :: xs) = cls lt v xs := List.filter_cons_of_neg (p := fun a => !lt a v && !lt v a) h
theorem cls_self (W : Weak lt P) {v : α} (h : P v) (xs : List α) : cls lt v (v :: xs) = v :: cls lt v xs := by
  unfold cls
  rw [List.filter_cons_of_pos]
  simp [W.irr h]
theorem sort_one (W : Weak lt P) : ∀ {xs ys : List α}, (∀ a ∈ xs, P a) → (∀ a ∈ ys, P a) → Srt lt xs → Srt lt ys → (∀ v, P v → cls lt v xs = cls lt v ys) → xs = ys
  | [], [], _, _, _, _, _ => rfl
  | [], y :: ys, _, hy, _, _, h => by
    have := h y (hy y List.mem_cons_self)
    rw [cls_nil, cls_self W (hy y List.mem_cons_self)] at this
    cases this
  | x :: xs, [], hx, _, _, _, h => by
    have := h x (hx x List.mem_cons_self)
    rw [cls_nil, cls_self W (hx x List.mem_cons_self)] at this
    cases this
  | x :: xs, y :: ys, hx, hy, sx, sy, h => by
    have px := hx x List.mem_cons_self
    have py := hy y List.mem_cons_self
    have m1 : x ∈ y :: ys := by
      have : x ∈ cls lt x (y :: ys) := by rw [← h x px, cls_self W px]; exact List.mem_cons_self
      exact (List.mem_filter.mp this).1
    have m2 : y ∈ x :: xs := by
      have : y ∈ cls lt y (x :: xs) := by rw [h y py, cls_self W py]; exact List.mem_cons_self
      exact (List.mem_filter.mp this).1
    have l1 : lt x y = false := by
      rcases List.mem_cons.mp m1 with rfl | m
      · exact W.irr px
      · exact (List.pairwise_cons.mp sy).1 x m
    have l2 : lt y x = false := by
      rcases List.mem_cons.mp m2 with rfl | m
      · exact W.irr px
      · exact (List.pairwise_cons.mp sx).1 y m
    have e := h x px
    have e2 : cls lt x (y :: ys) = y :: cls lt x ys := by
      unfold cls
      rw [List.filter_cons_of_pos]
      simp [l1, l2]
    rw [cls_self W px, e2] at e
    obtain ⟨e3, _⟩ := List.cons.inj e
    subst e3
    congr 1
    refine sort_one W (fun a ha => hx a (List.mem_cons_of_mem _ ha)) (fun a ha => hy a (List.mem_cons_of_mem _ ha)) (List.pairwise_cons.mp sx).2 (List.pairwise_cons.mp sy).2 fun v pv => ?_
    have e5 := h v pv
    by_cases hc : (!lt x v && !lt v x) = true
    · rw [cls_pos hc, cls_pos hc] at e5
      exact (List.cons.inj e5).2
    · rw [cls_neg hc, cls_neg hc] at e5
      exact e5
theorem srt_split (W : Weak lt P) {x : α} (px : P x) : ∀ {xs : List α}, (∀ a ∈ xs, P a) → Srt lt xs → xs = xs.filter (fun a => !lt x a) ++ xs.filter (fun a => lt x a)
  | [], _, _ => rfl
  | a :: xs, h, s => by
    have ih := srt_split W px (fun b hb => h b (List.mem_cons_of_mem _ hb)) (List.pairwise_cons.mp s).2
    by_cases hc : lt x a = true
    · have all : ∀ b ∈ xs, lt x b = true := fun b hb => by
        cases e : lt x b with
        | true => rfl
        | false =>
          have := W.tr a b x (h a List.mem_cons_self) (h b (List.mem_cons_of_mem _ hb)) px ((List.pairwise_cons.mp s).1 b hb) e
          rw [this] at hc
          cases hc
      have f1 : xs.filter (fun a => !lt x a) = [] := by
        rw [List.filter_eq_nil_iff]
        intro b hb
        simp [all b hb]
      rw [List.filter_cons_of_neg (by simp [hc]), List.filter_cons_of_pos hc, f1, List.nil_append]
      rw [f1, List.nil_append] at ih
      rw [← ih]
    · rw [List.filter_cons_of_pos (by simp [hc]), List.filter_cons_of_neg hc, List.cons_append, ← ih]
variable (lt)
def insV (x : α) (xs : List α) : List α := xs.filter (fun a => !lt x a) ++ x :: xs.filter (fun a => lt x a)
def isort (xs : List α) : List α := xs.foldl (fun t x => insV lt x t) []
variable {lt}
theorem ins_srt (W : Weak lt P) {x : α} (px : P x) {xs : List α} (h : ∀ a ∈ xs, P a) (s : Srt lt xs) : Srt lt (insV lt x xs) := by
  unfold insV Srt
  rw [List.pairwise_append]
  refine ⟨List.Pairwise.filter _ s, ?_, fun a ha b hb => ?_⟩
  · rw [List.pairwise_cons]
    refine ⟨fun b hb => ?_, List.Pairwise.filter _ s⟩
    have := List.mem_filter.mp hb
    exact W.asy x b px (h b this.1) this.2
  · have ha' := List.mem_filter.mp ha
    have e1 : lt x a = false := by simpa using ha'.2
    rcases List.mem_cons.mp hb with rfl | hb
    · exact e1
    · have hb' := List.mem_filter.mp hb
      exact W.tr a x b (h a ha'.1) px (h b hb'.1) e1 (W.asy x b px (h b hb'.1) hb'.2)
theorem ins_mem {x : α} {xs : List α} {a : α} : a ∈ insV lt x xs ↔ a = x ∨ a ∈ xs := by
  unfold insV
  simp only [List.mem_append, List.mem_filter, List.mem_cons]
  cases lt x a <;> simp
  · constructor
    · rintro (h | h)
      · exact .inr h
      · exact .inl h
    · rintro (h | h)
      · exact .inr h
      · exact .inl h
theorem ins_cls (W : Weak lt P) {x v : α} (px : P x) (pv : P v) {xs : List α} (h : ∀ a ∈ xs, P a) (s : Srt lt xs) : cls lt v (insV lt x xs) = cls lt v (xs ++ [x]) := by
  have sp := srt_split W px h s
  unfold insV
  rw [cls_app]
  by_cases hc : (!lt x v && !lt v x) = true
  · have e1 : cls lt v (xs.filter fun a => lt x a) = [] := by
      unfold cls
      rw [List.filter_eq_nil_iff]
      intro b hb
      have hb' := List.mem_filter.mp hb
      intro z
      simp only [Bool.and_eq_true, Bool.not_eq_true'] at z hc
      have := W.tr b v x (h b hb'.1) pv px z.2 hc.1
      rw [this] at hb'
      cases hb'.2
    have e2 : cls lt v (x :: xs.filter fun a => lt x a) = [x] := by rw [cls_pos hc, e1]
    have e3 : cls lt v xs = cls lt v (xs.filter fun a => !lt x a) := by
      conv => lhs; rw [sp]
      rw [cls_app, e1, List.append_nil]
    have e4 : cls lt v [x] = [x] := cls_pos hc []
    rw [e2, cls_app, e3, e4]
  · have e2 : cls lt v (x :: xs.filter fun a => lt x a) = cls lt v (xs.filter fun a => lt x a) := cls_neg hc _
    have e4 : cls lt v [x] = [] := cls_neg hc []
    rw [e2, cls_app, e4, List.append_nil, ← cls_app, ← sp]
theorem isort_go (W : Weak lt P) : ∀ (xs t : List α), (∀ a ∈ xs, P a) → (∀ a ∈ t, P a) → Srt lt t → Srt lt (xs.foldl (fun t x => insV lt x t) t) ∧ (∀ a ∈ xs.foldl (fun t x => insV lt x t) t, P a) ∧ (xs.foldl (fun t x => insV lt x t) t).length = t.length + xs.length ∧ ∀ v, P v → cls lt v (xs.foldl (fun t x => insV lt x t) t) = cls lt v (t ++ xs)
  | [], t, _, h, s => ⟨s, h, rfl, fun v _ => by rw [List.append_nil]; rfl⟩
  | x :: xs, t, hx, h, s => by
    have px := hx x List.mem_cons_self
    obtain ⟨a1, a2, a3, a4⟩ := isort_go W xs (insV lt x t) (fun a ha => hx a (List.mem_cons_of_mem _ ha)) (fun a ha => by
      rcases ins_mem.mp ha with rfl | ha
      · exact px
      · exact h a ha) (ins_srt W px h s)
    refine ⟨a1, a2, ?_, fun v pv => ?_⟩
    · have : (insV lt x t).length = t.length + 1 := by
        have e := congrArg List.length (srt_split W px h s)
        unfold insV
        rw [List.length_append] at e ⊢
        rw [List.length_cons]
        omega
      rw [List.foldl_cons, a3, this, List.length_cons]
      omega
    · rw [List.foldl_cons, a4 v pv, cls_app, ins_cls W px pv h s, cls_app, cls_app, List.append_assoc, ← cls_app]
      rfl
theorem isort_ok (W : Weak lt P) {xs : List α} (h : ∀ a ∈ xs, P a) : Srt lt (isort lt xs) ∧ (∀ a ∈ isort lt xs, P a) ∧ (isort lt xs).length = xs.length ∧ ∀ v, P v → cls lt v (isort lt xs) = cls lt v xs := by
  obtain ⟨a1, a2, a3, a4⟩ := isort_go W xs [] h (fun _ h => nomatch h) .nil
  exact ⟨a1, a2, by rw [show (isort lt xs).length = _ from a3]; simp, a4⟩
variable (lt)
def mrg : List α → List α → List α
  | [], ys => ys
  | x :: xs, ys => ys.takeWhile (fun y => lt y x) ++ x :: mrg xs (ys.dropWhile fun y => lt y x)
variable {lt}
theorem mrg_mem : ∀ {xs ys : List α} {a : α}, a ∈ mrg lt xs ys → a ∈ xs ∨ a ∈ ys
  | [], ys, a, h => .inr h
  | x :: xs, ys, a, h => by
    simp only [mrg, List.mem_append, List.mem_cons] at h
    rcases h with h | h | h
    · exact .inr ((List.takeWhile_prefix _).subset h)
    · exact .inl (by rw [h]; exact List.mem_cons_self)
    · rcases mrg_mem h with h | h
      · exact .inl (List.mem_cons_of_mem _ h)
      · exact .inr ((List.dropWhile_suffix _).subset h)
theorem mrg_len : ∀ (xs ys : List α), (mrg lt xs ys).length = xs.length + ys.length
  | [], ys => by simp [mrg]
  | x :: xs, ys => by
    have h := congrArg List.length (List.takeWhile_append_dropWhile (p := fun y => lt y x) (l := ys))
    rw [List.length_append] at h
    simp only [mrg, List.length_append, List.length_cons, mrg_len xs]
    omega
theorem mem_tw {p : α → Bool} : ∀ {ys : List α} {a : α}, a ∈ ys.takeWhile p → p a = true
  | y :: ys, a, h => by
    rw [List.takeWhile_cons] at h
    split at h
    · rcases List.mem_cons.mp h with rfl | h
      · assumption
      · exact mem_tw h
    · cases h
theorem dw_all (W : Weak lt P) {x : α} (px : P x) : ∀ {ys : List α}, (∀ a ∈ ys, P a) → Srt lt ys → ∀ a ∈ ys.dropWhile (fun y => lt y x), lt a x = false
  | [], _, _, _, h => nomatch h
  | y :: ys, hy, s, a, h => by
    rw [List.dropWhile_cons] at h
    split at h
    · exact dw_all W px (fun b hb => hy b (List.mem_cons_of_mem _ hb)) (List.pairwise_cons.mp s).2 a h
    · rename_i hn
      rcases List.mem_cons.mp h with rfl | h
      · simpa using hn
      · exact W.tr x y a px (hy y List.mem_cons_self) (hy a (List.mem_cons_of_mem _ h)) (by simpa using hn) ((List.pairwise_cons.mp s).1 a h)
theorem mrg_ok (W : Weak lt P) : ∀ {xs ys : List α}, (∀ a ∈ xs, P a) → (∀ a ∈ ys, P a) → Srt lt xs → Srt lt ys → Srt lt (mrg lt xs ys) ∧ ∀ v, P v → cls lt v (mrg lt xs ys) = cls lt v xs ++ cls lt v ys
  | [], ys, _, _, _, s => ⟨s, fun v _ => rfl⟩
  | x :: xs, ys, hx, hy, sx, sy => by
    have px := hx x List.mem_cons_self
    have hd : ∀ a ∈ ys.dropWhile (fun y => lt y x), P a := fun a ha => hy a ((List.dropWhile_suffix _).subset ha)
    have ht : ∀ a ∈ ys.takeWhile (fun y => lt y x), P a := fun a ha => hy a ((List.takeWhile_prefix _).subset ha)
    have sd : Srt lt (ys.dropWhile fun y => lt y x) := List.Pairwise.sublist (List.dropWhile_sublist _) sy
    have st : Srt lt (ys.takeWhile fun y => lt y x) := List.Pairwise.sublist (List.takeWhile_sublist _) sy
    obtain ⟨i1, i2⟩ := mrg_ok W (fun a ha => hx a (List.mem_cons_of_mem _ ha)) hd (List.pairwise_cons.mp sx).2 sd
    have hda := dw_all W px hy sy
    constructor
    · unfold mrg Srt
      rw [List.pairwise_append]
      refine ⟨st, ?_, fun a ha b hb => ?_⟩
      · rw [List.pairwise_cons]
        refine ⟨fun b hb => ?_, i1⟩
        rcases mrg_mem hb with hb | hb
        · exact (List.pairwise_cons.mp sx).1 b hb
        · exact hda b hb
      · have e1 := mem_tw ha
        rcases List.mem_cons.mp hb with rfl | hb
        · exact W.asy a b (ht a ha) px e1
        · rcases mrg_mem hb with hb | hb
          · exact W.tr a x b (ht a ha) px (hx b (List.mem_cons_of_mem _ hb)) (W.asy a x (ht a ha) px e1) ((List.pairwise_cons.mp sx).1 b hb)
          · exact W.tr a x b (ht a ha) px (hd b hb) (W.asy a x (ht a ha) px e1) (hda b hb)
    · intro v pv
      have sp : cls lt v ys = cls lt v (ys.takeWhile fun y => lt y x) ++ cls lt v (ys.dropWhile fun y => lt y x) := by
        rw [← cls_app, List.takeWhile_append_dropWhile]
      have e0 : cls lt v (mrg lt (x :: xs) ys) = cls lt v (ys.takeWhile fun y => lt y x) ++ (cls lt v [x] ++ cls lt v (mrg lt xs (ys.dropWhile fun y => lt y x))) := by
        rw [← cls_app, ← cls_app]
        rfl
      have e1 : cls lt v (x :: xs) = cls lt v [x] ++ cls lt v xs := by
        rw [← cls_app]
        rfl
      rw [e0, i2 v pv, sp, e1]
      by_cases hc : cls lt v (ys.takeWhile fun y => lt y x) = []
      · rw [hc]
        simp
      · -- some b ahead of x is of the class of v: then nothing of x :: xs is
        obtain ⟨b, hb⟩ := List.exists_mem_of_ne_nil _ hc
        have hb' := List.mem_filter.mp hb
        have e2 := mem_tw hb'.1
        have hz := hb'.2
        simp only [Bool.and_eq_true, Bool.not_eq_true'] at hz
        have none' : ∀ a ∈ x :: xs, (!lt a v && !lt v a) = false := fun a ha => by
          cases e : (!lt a v && !lt v a) with
          | false => rfl
          | true =>
            simp only [Bool.and_eq_true, Bool.not_eq_true'] at e
            have pb := ht b hb'.1
            have pa := hx a ha
            have l1 : lt a x = false := by
              rcases List.mem_cons.mp ha with rfl | ha
              · exact W.irr px
              · exact (List.pairwise_cons.mp sx).1 a ha
            have l2 : lt b a = false := W.tr a v b pa pv pb e.2 hz.1
            have := W.tr x a b px pa pb l1 l2
            rw [this] at e2
            cases e2
        have n1 : cls lt v [x] = [] := by
          unfold cls
          rw [List.filter_eq_nil_iff]
          intro a ha
          rw [none' a (by rw [List.mem_singleton.mp ha]; exact List.mem_cons_self)]
          decide
        have n2 : cls lt v xs = [] := by
          unfold cls
          rw [List.filter_eq_nil_iff]
          intro a ha
          rw [none' a (List.mem_cons_of_mem _ ha)]
          decide
        rw [n1, n2]
        simp
end
end TL

namespace TL
open PySem PySem.Spec PyProof.Rows L2
section
variable {S l ρ τ2 : Type} {c : Int × Int → QM S Bool} {body : Int × Int → QM S (Fl (Int × Int) (Int × Int) ρ)}
end
end TL

namespace TL
open PySem PySem.Spec PyProof.Rows L2
section
variable {S τ τ2 l ρ α β γ : Type}
theorem Wl.T {m : QM S α} {n : QM S β} {s : S} {Q : α → Prop} {Q2 : β → Prop} (h : Wl m s Q) (h2 : ∀ s, Wl n s Q2) : Wl (rT m n) s fun p => Q p.1 ∧ Q2 p.2 := h.bind fun a s1 ha => (h2 s1).bind fun b s2 hb => Wl.pure ⟨ha, hb⟩
theorem Wl.r2 {f : α → β → Option γ} {m : QM S α} {n : QM S β} {s : S} {Q1 : α → Prop} {Q2 : β → Prop} {Q : γ → Prop} (h : Wl m s Q1) (h2 : ∀ s, Wl n s Q2) (hf : ∀ x y, Q1 x → Q2 y → ∃ z, f x y = some z ∧ Q z) : Wl (r2 f m n) s Q := h.bind fun a s1 ha => (h2 s1).bind fun b s2 hb => by
  obtain ⟨z, h3, h4⟩ := hf a b ha hb
  rw [h3]
  exact Wl.pure h4
theorem Wl.r1 {f : α → Option γ} {m : QM S α} {s : S} {Q1 : α → Prop} {Q : γ → Prop} (h : Wl m s Q1) (hf : ∀ x, Q1 x → ∃ z, f x = some z ∧ Q z) : Wl (r1 f m) s Q := h.bind fun a s1 ha => by
  obtain ⟨z, h3, h4⟩ := hf a ha
  rw [h3]
  exact Wl.pure h4
theorem Wl.M {f : α → γ} {m : QM S α} {s : S} {Q1 : α → Prop} {Q : γ → Prop} (h : Wl m s Q1) (hf : ∀ x, Q1 x → Q (f x)) : Wl (rM f m) s Q := h.bind fun a s1 ha => Wl.pure (hf a ha)
theorem Wl.CS {g : α → QM S γ} {m : QM S α} {s : S} {Q1 : α → Prop} {Q : γ → Prop} (h : Wl m s Q1) (hg : ∀ a s, Q1 a → Wl (g a) s Q) : Wl (rCS g m) s Q := h.bind hg
theorem Wl.C {g : α → R Unit γ} {m : QM S α} {s : S} {Q1 : α → Prop} {Q : γ → Prop} (h : Wl m s Q1) (hg : ∀ a, Q1 a → ∃ z, g a = .ok z () ∧ Q z) : Wl (rC g m) s Q := h.bind fun a s1 ha => by
  obtain ⟨z, h1, h2⟩ := hg a ha
  refine ⟨z, s1, ?_, h2⟩
  dsimp only
  rw [h1]
theorem Wl.I {c : QM S Bool} {a b : QM S α} {s : S} {P : Bool → Prop} {Q : α → Prop} (h : Wl c s P) (ha : ∀ s, P true → Wl a s Q) (hb : ∀ s, P false → Wl b s Q) : Wl (rI c a b) s Q := h.bind fun t s1 ht => by
  cases t with
  | true => exact ha s1 ht
  | false => exact hb s1 ht
def Nx (Q : τ → Prop) (fl : Fl τ l ρ) : Prop := ∃ t, fl = .nx t ∧ Q t
def Rt (Q : ρ → Prop) (fl : Fl τ l ρ) : Prop := ∃ r, fl = .rt r ∧ Q r
theorem Wl.sq {m : QM S (Fl τ l ρ)} {K : τ → QM S (Fl τ2 l ρ)} {s : S} {Q : τ → Prop} {Q' : Fl τ2 l ρ → Prop} (h : Wl m s (Nx Q)) (hk : ∀ t s, Q t → Wl (K t) s Q') : Wl (rSq m K) s Q' := h.bind fun fl s1 ⟨t, e, hq⟩ => by
  subst e
  exact hk t s1 hq
theorem Wl.asg {m : QM S α} {s : S} {Q : α → Prop} (h : Wl m s Q) : Wl (rB m fun a => (rP (.nx a) : QM S (Fl α l ρ))) s (Nx Q) := h.bind fun a s1 ha => Wl.pure ⟨a, rfl, ha⟩
theorem Wl.rt {m : QM S ρ} {s : S} {Q : ρ → Prop} (h : Wl m s Q) : Wl (rB m fun a => (rP (.rt a) : QM S (Fl τ l ρ))) s (Rt Q) := h.bind fun a s1 ha => Wl.pure ⟨a, rfl, ha⟩
theorem Wl.nx {t : τ} {s : S} {Q : τ → Prop} (h : Q t) : Wl (rP (.nx t) : QM S (Fl τ l ρ)) s (Nx Q) := Wl.pure ⟨t, rfl, h⟩
theorem Wl.ret {m : QM S (Fl τ Empty ρ)} {s : S} {Q : ρ → Prop} (h : Wl m s (Rt Q)) : Wl (rRet m) s Q := h.bind fun fl s1 ⟨r, e, hq⟩ => by
  subst e
  exact Wl.pure hq
theorem Wl.cl {m : QM S α} {n : QM S (List α)} {s : S} {P : α → Prop} (h : Wl m s P) (h2 : ∀ s, Wl n s fun xs => ∀ x ∈ xs, P x) : Wl (rCl m n) s fun xs => xs ≠ [] ∧ ∀ x ∈ xs, P x := h.bind fun a s1 ha => (h2 s1).bind fun xs s2 hx => Wl.pure ⟨by simp, fun x hm => by
  rcases List.mem_cons.mp hm with rfl | hm
  · exact ha
  · exact hx x hm⟩
theorem Wl.fors {body : α → τ → QM S (Fl τ τ ρ)} (I : List α → τ → Prop) {xs : List α} {t : τ} {s : S} (h : I xs t) (hs : ∀ x r t s, I (x :: r) t → Wl (body x t) s (Nx fun t' => I r t')) : Wl (rFor body xs t : QM S (Fl τ l ρ)) s (Nx fun t' => I [] t') := Wl.for I h hs
theorem Wl.wh {c : τ → QM S Bool} {body : τ → QM S (Fl τ τ ρ)} (I : τ → Prop) (μ : τ → Nat) {t : τ} {s : S} (h : I t) (hs : ∀ t s, I t → c t s = .ok false s ∨ (c t s = .ok true s ∧ Wl (body t) s (Nx fun t' => I t' ∧ μ t' < μ t))) : Wl (rWh c body t : QM S (Fl τ l ρ)) s (Nx fun t' => I t' ∧ ∃ s', c t' s' = .ok false s') := by
  obtain ⟨t', s', h1, h2, h3⟩ := rWh_inv (l := l) I μ t s h fun t s ht => by
    rcases hs t s ht with h | ⟨h, fl, s', hb, t', e, h1, h2⟩
    · exact .inl h
    · subst e
      exact .inr ⟨h, t', s', hb, h1, h2⟩
  exact ⟨_, s', h1, t', rfl, h2, s', h3⟩
theorem Wl.of_eq {m m' : QM S α} {s : S} {Q : α → Prop} (e : m = m') (h : Wl m' s Q) : Wl m s Q := by rw [e]; exact h
end
theorem Wl.takeC {t : Int} {s : Src} (h : 0 < t) (hl : t.natAbs.log2 < 9000) : Wl (rCS mTake (rP t)) s (fun v => 0 ≤ v ∧ v < t) := Wl.take h hl
theorem Wl.oneC {α : Type} {xs : List α} {s : Src} (h : xs ≠ []) (hz : xs.length ≤ 1000000) : Wl (rCS mOne (rP xs)) s (fun v => v ∈ xs) := Wl.one h hz
theorem Wl.pool {τ l ρ τ2 : Type} {ns : List Int} {k : Int} {K : Unit → QM Src (Fl τ2 l ρ)} {s : Src} {Q : Fl τ2 l ρ → Prop} (h : 0 ≤ k ∧ k ≤ 1000) (hk : ∀ s, Wl (K ()) s Q) : Wl (rSq (rPool (τ := τ) ns (rP k)) K) s Q := by
  obtain ⟨a, s', h1, h2⟩ := hk (TL.pool ns k.toNat)
  exact ⟨a, s', by rw [rSq_pool h]; exact h1, h2⟩
theorem Wl.rng1 {m : QM Src Int} {s : Src} {N : Nat} (h : Wl m s fun n => 0 ≤ n ∧ n < N) (hN : N ≤ 1000000) : Wl (TL.r1 oRng1 m) s fun (xs : List Int) => xs.length < N + 1 ∧ ∀ k ∈ xs, 0 ≤ k ∧ k < N := Wl.r1 h fun n hn => by
  refine ⟨rngI 0 n.toNat, ?_, ?_, fun k hk => ?_⟩
  · unfold oRng1
    rw [if_pos (by omega)]
  · unfold rngI
    rw [List.length_map, List.length_range]
    omega
  · unfold rngI at hk
    rw [List.mem_map] at hk
    obtain ⟨i, hi, rfl⟩ := hk
    rw [List.mem_range] at hi
    omega
theorem Wl.as {α l ρ τ2 : Type} {S : Type} {m : QM S α} {a : α} {s : S} {K : α → QM S (Fl τ2 l ρ)} {Q : Fl τ2 l ρ → Prop} (e : m = rP a) (h : Wl (K a) s Q) : Wl (rSq (rB m fun a => rP (.nx a)) K) s Q := by
  rw [e, rB_P, rSq_nx]
  exact h
theorem law_wl {ns : List Int} {m : QM Src Bool} {F : Fn} (h : ∀ s : Src, RF (fun _ => [Sl.sc ns]) eB (m s) (F [.sc ns])) (hm : ∀ s, Wl m s fun b => b = true) : ∃ as', F [.sc ns] = .val (.bool true) as' := by
  obtain ⟨b, s', h1, rfl⟩ := hm (pool [] 0)
  exact law_rf (h _) h1
end TL

namespace TL
open PySem PySem.Spec PyProof.Rows L2
section
variable {S α β : Type} {X E E1 : EP S}
theorem len_L (e : α → PyData) (x : List α) : pyLen [eL e x] = some (eI ((List.length x : Nat) : Int)) := by simp [pyLen]
theorem len_T (e : α → PyData) (x : List α) : pyLen [eTL e x] = some (eI ((List.length x : Nat) : Int)) := by simp [pyLen]
theorem re_lnL {e : α → PyData} {m : QM S (List α)} {ds : List D} (h : RE X E E1 m (fun x => [eL e x]) (dArgs ds)) : RE X E E1 (rM (fun x => ((List.length x : Nat) : Int)) m) eI (dCB pyLen ds) :=
  re_cbM (g := pyLen) (es := fun x => [eL e x]) (e2 := eI) (f := fun x => ((List.length x : Nat) : Int)) (fun x => len_L e x) h
theorem re_lnT {e : α → PyData} {m : QM S (List α)} {ds : List D} (h : RE X E E1 m (fun x => [eTL e x]) (dArgs ds)) : RE X E E1 (rM (fun x => ((List.length x : Nat) : Int)) m) eI (dCB pyLen ds) :=
  re_cbM (g := pyLen) (es := fun x => [eTL e x]) (e2 := eI) (f := fun x => ((List.length x : Nat) : Int)) (fun x => len_T e x) h
end
end TL
namespace TL
open PySem PySem.Spec PyProof.Rows L2
@[simp] theorem oLtD_pt (x y : Int × Int) : oB pyLtD (eT2 eI eI) (eT2 eI eI) x y = some (decide (x.1 < y.1 ∨ x.1 = y.1 ∧ x.2 < y.2)) := by
  unfold oB pyLtD
  rw [if_pos (ord_pair _ _ _ _), dataLt_pair]
  rfl
@[simp] theorem oGtD_pt (x y : Int × Int) : oB pyGtD (eT2 eI eI) (eT2 eI eI) x y = some (decide (y.1 < x.1 ∨ y.1 = x.1 ∧ y.2 < x.2)) := by
  unfold oB pyGtD
  rw [if_pos (ord_pair _ _ _ _), dataLt_pair]
  rfl
@[simp] theorem oLeD_pt (x y : Int × Int) : oB pyLeD (eT2 eI eI) (eT2 eI eI) x y = some (decide (¬ (y.1 < x.1 ∨ y.1 = x.1 ∧ y.2 < x.2))) := by
  unfold oB pyLeD
  rw [if_pos (ord_pair _ _ _ _), dataLt_pair, ← decide_not]
  rfl
@[simp] theorem oGeD_pt (x y : Int × Int) : oB pyGeD (eT2 eI eI) (eT2 eI eI) x y = some (decide (¬ (x.1 < y.1 ∨ x.1 = y.1 ∧ x.2 < y.2))) := by
  unfold oB pyGeD
  rw [if_pos (ord_pair _ _ _ _), dataLt_pair, ← decide_not]
  rfl
section
variable {S : Type} {X E E1 : EP S}
end
section
variable {S α β : Type} {X E E1 : EP S}
end
end TL

namespace TL
abbrev Vc := Int × Int
def crV (u v : Vc) : Int := u.1 * v.2 - u.2 * v.1
def dtV (u v : Vc) : Int := u.1 * v.1 + u.2 * v.2
def toV (o p : Vc) : Vc := (p.1 - o.1, p.2 - o.2)
theorem dtV_pos {v : Vc} (h : v ≠ (0, 0)) : 0 < dtV v v := by
  obtain ⟨a, b⟩ := v
  unfold dtV
  dsimp only
  by_cases ha : a = 0
  · by_cases hb : b = 0
    · subst ha hb
      exact absurd rfl h
    · have h1 : 0 < b * b := by
        rcases Int.lt_or_gt_of_ne hb with z | z
        · exact Int.mul_pos_of_neg_of_neg z z
        · exact Int.mul_pos z z
      subst ha
      omega
  · have h1 : 0 < a * a := by
      rcases Int.lt_or_gt_of_ne ha with z | z
      · exact Int.mul_pos_of_neg_of_neg z z
      · exact Int.mul_pos z z
    have h2 : 0 ≤ b * b := by
      rcases Int.le_total 0 b with z | z
      · exact Int.mul_nonneg z z
      · exact Int.mul_nonneg_of_nonpos_of_nonpos z z
    omega
theorem pluck (e u v w : Vc) : dtV e v * crV u w = dtV e w * crV u v + dtV e u * crV v w := by
  unfold dtV crV
  grind
def GdV (u v : Vc) : Prop := 0 < crV u v ∨ crV u v = 0 ∧ dtV v v ≤ dtV u u
theorem sq_along (e u v : Vc) (h : crV u v = 0) : dtV e u * dtV e u * dtV v v = dtV e v * dtV e v * dtV u u := by
  have h' : u.1 * v.2 = u.2 * v.1 := by unfold crV at h; omega
  unfold dtV
  grind
theorem pos_of_mul {a b : Int} (ha : 0 < a) (h : 0 < a * b) : 0 < b := by
  rcases Int.lt_or_le 0 b with z | z
  · exact z
  · have := Int.mul_nonpos_of_nonneg_of_nonpos (Int.le_of_lt ha) z
    omega
theorem nonneg_of_mul {a b : Int} (ha : 0 < a) (h : 0 ≤ a * b) : 0 ≤ b := by
  rcases Int.lt_or_le b 0 with z | z
  · have := Int.mul_neg_of_pos_of_neg ha z
    omega
  · exact z
theorem zero_of_mul {a b : Int} (ha : 0 < a) (h : a * b = 0) : b = 0 := by
  rcases Int.mul_eq_zero.mp h with z | z
  · omega
  · exact z
theorem far_along {e u v : Vc} (hu : 0 < dtV e u) (hv : 0 < dtV e v) (h : crV u v = 0) (nv : 0 < dtV v v) : dtV v v ≤ dtV u u ↔ dtV e v ≤ dtV e u := by
  have k := sq_along e u v h
  generalize dtV e u = p at *
  generalize dtV e v = q at *
  generalize dtV v v = V at *
  generalize dtV u u = U at *
  constructor
  · intro hl
    rcases Int.lt_or_le p q with z | z
    · have h1 : p * p < q * q := Int.lt_of_le_of_lt (Int.mul_le_mul_of_nonneg_left (Int.le_of_lt z) (Int.le_of_lt hu)) (Int.mul_lt_mul_of_pos_right z hv)
      have h2 : p * p * V < q * q * V := Int.mul_lt_mul_of_pos_right h1 nv
      have h3 : q * q * V ≤ q * q * U := Int.mul_le_mul_of_nonneg_left hl (Int.mul_nonneg (Int.le_of_lt hv) (Int.le_of_lt hv))
      omega
    · exact z
  · intro hl
    rcases Int.lt_or_le U V with z | z
    · have h1 : q * q ≤ p * p := Int.mul_le_mul hl hl (Int.le_of_lt hv) (Int.le_of_lt hu)
      have h2 : q * q * U < q * q * V := Int.mul_lt_mul_of_pos_left z (Int.mul_pos hv hv)
      have h3 : q * q * V ≤ p * p * V := Int.mul_le_mul_of_nonneg_right h1 (Int.le_of_lt nv)
      omega
    · exact z
theorem ne_of_dt {e v : Vc} (h : 0 < dtV e v) : v ≠ (0, 0) := fun z => by
  subst z
  unfold dtV at h
  simp at h
theorem GdV.trans {e u v w : Vc} (hu : 0 < dtV e u) (hv : 0 < dtV e v) (hw : 0 < dtV e w) (a : GdV u v) (b : GdV v w) : GdV u w := by
  have k := pluck e u v w
  have nv := dtV_pos (ne_of_dt hv)
  have nw := dtV_pos (ne_of_dt hw)
  rcases a with a | ⟨a, a2⟩
  · left
    have h1 := Int.mul_pos hw a
    have h2 : 0 ≤ dtV e u * crV v w := Int.mul_nonneg (Int.le_of_lt hu) (b.elim Int.le_of_lt fun z => by omega)
    exact pos_of_mul hv (by omega)
  · rw [a, Int.mul_zero, Int.zero_add] at k
    rcases b with b | ⟨b, b2⟩
    · left
      have h1 := Int.mul_pos hu b
      exact pos_of_mul hv (by omega)
    · right
      rw [b, Int.mul_zero] at k
      have c := zero_of_mul hv k
      refine ⟨c, (far_along hu hw c nw).mpr ?_⟩
      have h1 := (far_along hu hv a nv).mp a2
      have h2 := (far_along hv hw b nw).mp b2
      omega
end TL

namespace TL
theorem above_all (g : Vc → Int) : ∀ ps : List Vc, ∃ M, 0 ≤ M ∧ ∀ p ∈ ps, g p < M
  | [] => ⟨0, Int.le_refl 0, fun _ h => nomatch h⟩
  | p :: ps => by
    obtain ⟨M, h0, h⟩ := above_all g ps
    refine ⟨M + (if g p < 0 then 0 else g p + 1), by split <;> omega, fun q hq => ?_⟩
    rcases List.mem_cons.mp hq with z | z
    · subst z
      split <;> omega
    · have := h q z
      split <;> omega
def UpV (v : Vc) : Prop := 0 < v.2 ∨ v.2 = 0 ∧ 0 < v.1
theorem upB_iff (v : Vc) : upB v.1 v.2 = true ↔ UpV v := by
  unfold upB UpV
  simp
end TL

namespace TL
def AhV (u v : Vc) : Prop := aheadB u.1 u.2 v.1 v.2 = true
theorem up_seen : ∀ us : List Vc, (∀ u ∈ us, UpV u) → ∃ e, ∀ u ∈ us, 0 < dtV e u := fun us h => by
  obtain ⟨M, h0, hM⟩ := above_all (fun p : Vc => - p.1) us
  refine ⟨(1, M), fun u hu => ?_⟩
  have h1 : - u.1 < M := hM u hu
  have k : dtV (1, M) u = u.1 + M * u.2 := by
    unfold dtV
    dsimp only
    rw [Int.one_mul]
  rw [k]
  rcases h u hu with z | ⟨z, z2⟩
  · have h2 : M * 1 ≤ M * u.2 := Int.mul_le_mul_of_nonneg_left z h0
    omega
  · rw [z]
    omega
def ngV (v : Vc) : Vc := (-v.1, -v.2)
theorem ng_up {v : Vc} (nz : v ≠ (0, 0)) (h : ¬ UpV v) : UpV (ngV v) := by
  have nz : ¬ (v.1 = 0 ∧ v.2 = 0) := fun z => nz (Prod.ext z.1 z.2)
  unfold UpV ngV at *
  dsimp only at *
  omega
theorem ng_cr (u v : Vc) : crV (ngV u) (ngV v) = crV u v := by
  unfold crV ngV
  grind
theorem cr_trans {u v w : Vc} (hu : UpV u) (hv : UpV v) (hw : UpV w) (a : 0 < crV u v) (b : 0 < crV v w) : 0 < crV u w := by
  obtain ⟨e, h⟩ := up_seen [u, v, w] (fun x hx => by
    rcases List.mem_cons.mp hx with z | hx
    · subst z; exact hu
    rcases List.mem_cons.mp hx with z | hx
    · subst z; exact hv
    rcases List.mem_cons.mp hx with z | hx
    · subst z; exact hw
    · cases hx)
  have k := pluck e u v w
  have h1 := Int.mul_pos (h w (by simp)) a
  have h2 := Int.mul_pos (h u (by simp)) b
  exact pos_of_mul (h v (by simp)) (by omega)
theorem upB_no {v : Vc} : upB v.1 v.2 = false ↔ ¬ UpV v := by
  rw [← upB_iff]
  simp
theorem AhV.trans {u v w : Vc} (nu : u ≠ (0, 0)) (nv : v ≠ (0, 0)) (nw : w ≠ (0, 0)) (a : AhV u v) (b : AhV v w) : AhV u w := by
  unfold AhV aheadB at *
  cases hu : upB u.1 u.2 <;> cases hv : upB v.1 v.2 <;> cases hw : upB w.1 w.2 <;> rw [hu, hv] at a <;> rw [hv, hw] at b <;> simp at a b ⊢
  · have h := cr_trans (ng_up nu (upB_no.mp hu)) (ng_up nv (upB_no.mp hv)) (ng_up nw (upB_no.mp hw)) (by rw [ng_cr]; unfold crV; omega) (by rw [ng_cr]; unfold crV; omega)
    rw [ng_cr] at h
    unfold crV at h
    omega
  · have h := cr_trans ((upB_iff u).mp hu) ((upB_iff v).mp hv) ((upB_iff w).mp hw) (by unfold crV; omega) (by unfold crV; omega)
    unfold crV at h
    omega
theorem AhV.irr {u : Vc} (a : AhV u u) : False := by
  unfold AhV aheadB at a
  rw [if_pos rfl] at a
  have := of_decide_eq_true a
  rw [Int.mul_comm u.2 u.1] at this
  omega
theorem few {α : Type} [DecidableEq α] : ∀ {l ps : List α}, l.Nodup → (∀ a ∈ l, a ∈ ps) → l.length ≤ ps.length
  | [], _, _, _ => Nat.zero_le _
  | a :: l, ps, n, h => by
    have hn := List.nodup_cons.mp n
    have ha := h a List.mem_cons_self
    have k := few (l := l) (ps := ps.erase a) hn.2 fun b hb => (List.mem_erase_of_ne (fun z : b = a => hn.1 (by rw [← z]; exact hb))).mpr (h b (List.mem_cons_of_mem _ hb))
    rw [List.length_erase_of_mem ha] at k
    have : 0 < ps.length := List.length_pos_of_mem ha
    rw [List.length_cons]
    omega
end TL

namespace TL
def plV (p d : Vc) : Vc := (p.1 + d.1, p.2 + d.2)
def chS (f : Vc) : Vc → List Vc → List Vc
  | o, [] => [toV o f]
  | o, b :: r => toV o b :: chS f b r
def chE (f : Vc) (o : Vc) (r : List Vc) : List (Vc × Vc) := (o :: r).zip (chS f o r)
theorem chE_cons (f o b : Vc) (r : List Vc) : chE f o (b :: r) = (o, toV o b) :: chE f b r := rfl
def RisV : List Vc → Prop
  | d :: e :: r => AhV d e ∧ RisV (e :: r)
  | _ => True
structure PolyV (f : Vc) (r : List Vc) : Prop where
  nz : ∀ x ∈ chE f f r, x.2 ≠ (0, 0)
  ris : RisV (chS f f r)
  nd : (f :: r).Nodup
  cvx : ∀ x ∈ chE f f r, ∀ p ∈ f :: r, 0 < crV x.2 (toV x.1 p) ∨ crV x.2 (toV x.1 p) = 0 ∧ (p = x.1 ∨ p = plV x.1 x.2)
end TL

namespace TL
end TL

namespace TL
open PySem PySem.Spec PyProof.Rows L2
@[simp] theorem oIsNot_pt (x : Option Pt) : oB pyIsNot (eO (eT2 eI eI)) eN x () = some x.isSome := by cases x <;> rfl
@[simp] theorem oIs_pt (x : Option Pt) : oB pyIs (eO (eT2 eI eI)) eN x () = some x.isNone := by cases x <;> rfl
@[simp] theorem oIsNot_int (x : Option Int) : oB pyIsNot (eO eI) eN x () = some x.isSome := by cases x <;> rfl
@[simp] theorem oIs_int (x : Option Int) : oB pyIs (eO eI) eN x () = some x.isNone := by cases x <;> rfl
@[simp] theorem oEq_optpt (x y : Pt) : oEq (eO (eT2 eI eI)) (eT2 eI eI) (some x) y = some (decide (x = y)) := oEq_pt x y
@[simp] theorem oNe_optpt (x y : Pt) : oNe (eO (eT2 eI eI)) (eT2 eI eI) (some x) y = some (decide (x ≠ y)) := oNe_pt x y
@[simp] theorem oNe_optint (x y : Int) : oNe (eO eI) eI (some x) y = some (decide (x ≠ y)) := oNe_int x y
@[simp] theorem oEq_optint (x y : Int) : oEq (eO eI) eI (some x) y = some (decide (x = y)) := oEq_int x y
theorem atI_ofNat {α : Type} {xs : List α} {j : Nat} {a : α} (h : xs[j]? = some a) : atI xs (j : Int) = some a := atI_nat h
theorem oAt_ofNat {α : Type} {xs : List α} {j : Nat} {a : α} (h : xs[j]? = some a) : oAt xs (j : Int) = some a := atI_nat h
@[simp] theorem oAt_zero {α : Type} (a : α) (xs : List α) : oAt (a :: xs) 0 = some a := oAt_ofNat (j := 0) rfl
@[simp] theorem atI_zero {α : Type} (a : α) (xs : List α) : atI (a :: xs) 0 = some a := atI_ofNat (j := 0) rfl
@[simp] theorem oAt_one {α : Type} (a b : α) (xs : List α) : oAt (a :: b :: xs) 1 = some b := oAt_ofNat (j := 1) rfl
@[simp] theorem atI_last {α : Type} (a : α) (xs : List α) : atI (xs ++ [a]) (-1) = some a := by
  have h : ixN (xs ++ [a]).length (-1) = some xs.length := by
    unfold ixN
    rw [List.length_append, List.length_singleton, if_neg (by omega), if_pos (by omega)]
    congr 1
    omega
  unfold atI
  rw [h]
  simp
@[simp] theorem cutT_tail {α : Type} (xs : List α) : cutT xs (some 1) none = xs.drop 1 := by
  unfold cutT
  have e : HT.sIx xs.length 0 (some 1) = min 1 xs.length := rfl
  rw [e, show HT.sIx xs.length xs.length none = xs.length from rfl]
  rcases xs with _ | ⟨a, xs⟩
  · rfl
  · have : min 1 (a :: xs).length = 1 := by rw [List.length_cons]; omega
    rw [this]
    simp
section
variable {S τ τ2 l ρ α β : Type}
theorem if_f {c : QM S Bool} {a b : QM S α} (h : c = rP false) : rI c a b = b := by rw [h]; rfl
end
theorem rng_mem {lo : Int} {n : Nat} {k : Int} (h : k ∈ rngI lo n) : lo ≤ k ∧ k < lo + n := by
  unfold rngI at h
  rw [List.mem_map] at h
  obtain ⟨i, hi, rfl⟩ := h
  rw [List.mem_range] at hi
  omega
theorem oRng1_nat {n : Nat} (h : n < 2 ^ 62) : oRng1 (n : Int) = some (rngI 0 n) := by
  unfold oRng1
  rw [if_pos (by omega)]
  rfl
theorem oCat_ok {α : Type} {x y : List α} (h : x.length + y.length ≤ 100000) : oCat x y = some (x ++ y) := by
  unfold oCat
  rw [if_pos (size_small h)]
end TL

namespace TL
open PySem PySem.Spec PyProof.Rows L2
section
variable {S α β : Type} {X E E1 : EP S}
end
section
variable {S τ l ρ α : Type} {C : Cq S l ρ} {E E1 : EP S}
end
end TL

namespace TL
open PySem PySem.Spec PyProof.Rows L2
section
variable {S τ l ρ α β γ δ : Type}
theorem ev_P {a : α} : (rP a : QM S α) = rP a := rfl
theorem ev_2 {f : α → β → Option γ} {m : QM S α} {n : QM S β} {a : α} {b : β} {c : γ} (h1 : m = rP a) (h2 : n = rP b) (h3 : f a b = some c) : r2 f m n = rP c := by rw [h1, h2, r2_P, h3, rO_some]
theorem ev_1 {f : α → Option γ} {m : QM S α} {a : α} {c : γ} (h1 : m = rP a) (h3 : f a = some c) : r1 f m = rP c := by rw [h1, r1_P, h3, rO_some]
theorem ev_M {f : α → γ} {m : QM S α} {a : α} (h1 : m = rP a) : rM f m = rP (f a) := by rw [h1, rM_P]
theorem ev_T {m : QM S α} {n : QM S β} {a : α} {b : β} (h1 : m = rP a) (h2 : n = rP b) : rT m n = rP (a, b) := by rw [h1, h2, rT_P]
theorem ev_Cl {m : QM S α} {n : QM S (List α)} {a : α} {b : List α} (h1 : m = rP a) (h2 : n = rP b) : rCl m n = rP (a :: b) := by rw [h1, h2, rCl_P]
theorem ev_C {g : α → R Unit γ} {m : QM S α} {a : α} {c : γ} (h1 : m = rP a) (h2 : g a = .ok c ()) : rC g m = rP c := by rw [h1, rC_P, h2, rG_ok]
theorem ev_Or {a b : QM S Bool} {x y : Bool} (h : a = rP x) (h2 : b = rP y) : rOr a b = rP (x || y) := by
  rw [h, rOr_P, h2]
  cases x <;> rfl
end
theorem Wl.tk {m : QM Src Int} {t : Int} {s : Src} (e : m = rP t) (h : 0 < t) (hl : t.natAbs.log2 < 9000) : Wl (rCS mTake m) s (fun v => 0 ≤ v ∧ v < t) := by
  rw [e]
  exact Wl.takeC h hl
theorem Wl.on {α : Type} {m : QM Src (List α)} {xs : List α} {s : Src} (e : m = rP xs) (h : xs ≠ []) (hz : xs.length ≤ 1000000) : Wl (rCS mOne m) s (fun v => v ∈ xs) := by
  rw [e]
  exact Wl.oneC h hz
end TL

namespace TL
open PySem PySem.Spec PyProof.Rows L2
section
variable {S α β : Type} {X E E1 E2 : EP S}
theorem mg_extK {xs : List α} {enc : α → PyData} : ∀ zs ys, oExt xs zs = some ys → ∃ u, gExtK (xs.map enc) [eL enc zs] = some (u, ys.map enc) := fun zs ys h => by
  unfold oExt at h
  split at h
  · cases h
    refine ⟨.none, ?_⟩
    show (if (xs.map enc).length + (zs.map enc).length ≤ sizeLine then some (PyData.none, xs.map enc ++ zs.map enc) else none) = _
    rw [List.length_map, List.length_map, if_pos (by assumption), List.map_append]
  · cases h
end
section
variable {S α β l ρ : Type} {C : Cq S l ρ} {E E1 E2 : EP S}
end
end TL
namespace TL
end TL

namespace TL
open PySem PySem.Spec PyProof.Rows L2
section
variable {S α β : Type} {X E E1 E2 : EP S}
end
end TL
namespace TL
open PySem PySem.Spec PyProof.Rows L2
section
variable {S α : Type} {X E E1 : EP S}
end
end TL
namespace TL
open PySem PySem.Spec PyProof.Rows L2
section
variable {S α β : Type} {X E E1 : EP S}
end
end TL
namespace TL
open PySem PySem.Spec PyProof.Rows L2
section
variable {S α : Type} {X E E1 E2 : EP S}
end
end TL
namespace TL
open PySem PySem.Spec PyProof.Rows L2
section
variable {S : Type} {X E E1 : EP S}
end
end TL
namespace TL
open PySem PySem.Spec PyProof.Rows L2
section
variable {S α : Type} {X E E1 : EP S}
end
end TL

namespace TL
open PySem PySem.Spec PyProof.Rows L2
def eU {α β : Type} (a : α → PyData) (b : β → PyData) : α ⊕ β → PyData
  | .inl x => a x
  | .inr y => b y
@[simp] theorem eU_l {α β : Type} (a : α → PyData) (b : β → PyData) (x : α) : eU a b (.inl x) = a x := rfl
@[simp] theorem eU_r {α β : Type} (a : α → PyData) (b : β → PyData) (x : β) : eU a b (.inr x) = b x := rfl
@[simp] theorem eU_cl {α β : Type} (a : α → PyData) (b : β → PyData) : eU a b ∘ Sum.inl = a := rfl
@[simp] theorem eU_cr {α β : Type} (a : α → PyData) (b : β → PyData) : eU a b ∘ Sum.inr = b := rfl
section
variable {S α β τ l ρ : Type} {X E E1 : EP S}
def rUn {γ : Type} (x : α ⊕ β) (m : α → QM S γ) (n : β → QM S γ) : QM S γ := match x with
  | .inl a => m a
  | .inr b => n b
@[simp] theorem rUn_l {γ : Type} (a : α) (m : α → QM S γ) (n : β → QM S γ) : rUn (.inl a) m n = m a := rfl
@[simp] theorem rUn_r {γ : Type} (a : β) (m : α → QM S γ) (n : β → QM S γ) : rUn (.inr a) m n = n a := rfl
end
end TL

namespace TL
open PySem PySem.Spec PyProof.Rows L2
section
variable {S α : Type} {X E E1 : EP S}
def oRep (xs : List α) (n : Int) : Option (List α) := if xs.length ≠ 0 ∧ 2 ≤ n ∧ n ≤ 1000 ∧ xs.length ≤ 1000 then some (List.replicate n.toNat xs).flatten else none
theorem ot_rep {enc : α → PyData} : OpT pyRepT (eTL enc) eI (eTL enc) oRep := fun xs n z h => by
  unfold oRep at h
  split at h
  · rename_i c
    cases h
    show (if xs.map enc ≠ [] ∧ 2 ≤ n ∧ n ≤ 1000 ∧ (xs.map enc).length ≤ 1000 then some (PyData.tuple (List.replicate n.toNat (xs.map enc)).flatten) else none) = _
    rw [if_pos ⟨by
      intro z
      have := List.map_eq_nil_iff.mp z
      rw [this] at c
      exact c.1 rfl, c.2.1, c.2.2.1, by rw [List.length_map]; exact c.2.2.2⟩]
    show some (PyData.tuple (List.replicate n.toNat (xs.map enc)).flatten) = some (PyData.tuple ((List.replicate n.toNat xs).flatten.map enc))
    rw [List.map_flatten, List.map_replicate]
  · cases h
end
def semB (o : OutF) : R Unit Bool := match o with
  | .val (.bool b) _ => .ok b ()
  | _ => .stuck
theorem RF_semB (o : OutF) : RF noS eB (semB o) o := by
  unfold semB
  split
  · exact ⟨_, .inl rfl⟩
  · trivial
theorem semB_of {m : R Unit Bool} {o : OutF} {b : Bool} (h : RF noS eB m o) (e : m = .ok b ()) : semB o = .ok b () := by
  rw [e] at h
  obtain ⟨as, h | ⟨ds, h, k⟩⟩ := h
  · rw [h]
    rfl
  · cases k
end TL

namespace TL
open PySem PySem.Spec PyProof.Rows L2
section
variable {S α β : Type} {X E E1 : EP S}
end
end TL

namespace TL
open PySem PySem.Spec PyProof.Rows L2
structure LY (n : Nat) (d : PyData) : Prop where
  lay : d.canLay0 = true
  dep : d.depth ≤ n
  slf : PyData.eqv d d = true
structure LYs (n : Nat) (ds : List PyData) : Prop where
  lay : PyData.canLayAll0 ds = true
  dep : PyData.depthAll ds ≤ n
  slf : PyData.eqvAll ds ds = true
theorem LY.up {m n : Nat} {d : PyData} (h : LY m d) (k : m ≤ n) : LY n d := ⟨h.lay, Nat.le_trans h.dep k, h.slf⟩
theorem lys_0 (n : Nat) : LYs n [] := ⟨rfl, by simp [PyData.depthAll], by simp [PyData.eqvAll]⟩
theorem lys_c {n : Nat} {d : PyData} {ds : List PyData} (h : LY n d) (t : LYs n ds) : LYs n (d :: ds) :=
  ⟨by simp [PyData.canLayAll0, h.lay, t.lay], by have := h.dep; have := t.dep; simp [PyData.depthAll]; omega, by simp [PyData.eqvAll, h.slf, t.slf]⟩
theorem ly_I (i : Int) : LY 1 (eI i) := ⟨by simp [PyData.canLay0], by simp [PyData.depth], by simp [PyData.eqv]⟩
theorem ly_B (b : Bool) : LY 1 (eB b) := ⟨by simp [PyData.canLay0], by simp [PyData.depth], by cases b <;> decide +kernel⟩
theorem ly_N : LY 1 PyData.none := ⟨by decide +kernel, by decide +kernel, by decide +kernel⟩
theorem ly_tup {n : Nat} {ds : List PyData} (h : LYs n ds) (l : ds.length ≤ 100000) : LY (n + 1) (.tuple ds) := by
  have z : (100000 : Nat) ≤ sizeLine := by decide +kernel
  have := h.dep
  exact ⟨by simp [PyData.canLay0, h.lay] <;> omega, by simp [PyData.depth]; omega, by simp [PyData.eqv, h.slf]⟩
theorem ly_lst {n : Nat} {ds : List PyData} (h : LYs n ds) (l : ds.length ≤ 100000) : LY (n + 1) (.list ds) := by
  have z : (100000 : Nat) ≤ sizeLine := by decide +kernel
  have := h.dep
  exact ⟨by simp [PyData.canLay0, h.lay] <;> omega, by simp [PyData.depth]; omega, by simp [PyData.eqv, h.slf]⟩
theorem lys_map {α : Type} {e : α → PyData} {n : Nat} (h : ∀ x, LY n (e x)) : ∀ xs : List α, LYs n (xs.map e)
  | [] => lys_0 n
  | x :: xs => lys_c (h x) (lys_map h xs)
theorem ly_L {α : Type} {e : α → PyData} {n : Nat} (h : ∀ x, LY n (e x)) {xs : List α} (l : xs.length ≤ 100000) : LY (n + 1) (eL e xs) := ly_lst (lys_map h xs) (by rw [List.length_map]; exact l)
theorem ly_T2 {α β : Type} {a : α → PyData} {b : β → PyData} {n : Nat} {x : α} {y : β} (h : LY n (a x)) (k : LY n (b y)) : LY (n + 1) (eT2 a b (x, y)) := ly_tup (lys_c h (lys_c k (lys_0 n))) (by simp)
theorem ly_T3 {α β γ : Type} {a : α → PyData} {b : β → PyData} {c : γ → PyData} {n : Nat} {x : α} {y : β} {z : γ} (h : LY n (a x)) (k : LY n (b y)) (m : LY n (c z)) : LY (n + 1) (eT3 a b c (x, y, z)) := ly_tup (lys_c h (lys_c k (lys_c m (lys_0 n)))) (by simp)
theorem ly_S {x : Str} (h : PyData.strOk x = true) : LY 1 (eS x) := ⟨by simp [PyData.canLay0, h], by simp [PyData.depth], by simp [PyData.eqv]⟩
theorem ly_P (p : Pt) : LY 2 (eT2 eI eI p) := ly_T2 (ly_I p.1) (ly_I p.2)
section
variable {α β : Type} {ea : α → PyData} {eb : β → PyData} {x : α} {y : β}
theorem LY.shp {n : Nat} {d : PyData} (h : LY n d) (k : n ≤ 64) : SeqAt.shaped d = true := by
  have := h.dep
  simp [SeqAt.shaped, h.lay]
  omega
theorem oNe_ly {n : Nat} (h : LY n (ea x)) (e : eb y = ea x := by rfl) (k : n ≤ 64 := by decide) : oNe ea eb x y = some false := by
  unfold oNe
  rw [e, if_pos ⟨h.shp k, h.shp k⟩, h.slf]
  rfl
end
end TL

namespace TL
open PySem PySem.Spec PyProof.Rows L2
section
variable {S α : Type} {X E E1 : EP S}
end
structure RY (n w : Nat) (d : PyData) : Prop where
  shw : d.showable = true
  nod : d.hasDict = false
  dep : d.depth ≤ n
  lv : d.leavesShort 13 = true
  wt : d.weight ≤ w
  ok : PyData.strOk d.shown = true
theorem RY.up {m n v w : Nat} {d : PyData} (h : RY m v d) (k : m ≤ n) (j : v ≤ w) : RY n w d := ⟨h.shw, h.nod, Nat.le_trans h.dep k, h.lv, Nat.le_trans h.wt j, h.ok⟩
theorem RY.len {n w : Nat} {d : PyData} (h : RY n w d) (k : w ≤ 6000) : d.shown.length ≤ 100000 := by
  have q := PyData.shown_le 13 (by decide) d h.lv
  have := h.wt
  omega
section
variable {α β : Type} {ea : α → PyData} {eb : β → PyData} {x : α} {y : β}
end
end TL

namespace TL
open PySem PySem.Spec PyProof.Rows L2
section
variable {S : Type} {X E E1 : EP S}
end
end TL

namespace TL
open PySem PySem.Spec PyProof.Rows L2
abbrev eP : Int × Int → PyData := eT2 eI eI
abbrev Pat.v (d : PyData) : Pat := .is (some (.pv d))
theorem Le.t {p : Pat} {ps qs : List Pat} (h : Le ps qs) : Le (p :: ps) (.top :: qs) := .cons pl_top h
theorem Le.r {p : Pat} {ps qs : List Pat} (h : Le ps qs) : Le (p :: ps) (p :: qs) := .cons pl_re h
end TL

namespace TL
open PySem PySem.Spec PyProof.Rows L2
section
variable {S : Type} {X E E1 : EP S}
end
section
variable {S l ρ τ α : Type} {C : Cq S l ρ} {E : EP S} {Et : τ → EP S}
end
end TL

namespace TL
open PySem PySem.Spec PyProof.Rows L2
structure RZ (n w : Nat) (d : PyData) : Prop where
  shw : d.showable = true
  nod : d.hasDict = false
  dep : d.depth ≤ n
  lv : d.leavesShort 100 = true
  wt : d.bulk ≤ w
  ok : PyData.strOk d.shown = true
theorem RZ.up {m n v w : Nat} {d : PyData} (h : RZ m v d) (k : m ≤ n) (j : v ≤ w) : RZ n w d := ⟨h.shw, h.nod, Nat.le_trans h.dep k, h.lv, Nat.le_trans h.wt j, h.ok⟩
theorem RZ.len {n w : Nat} {d : PyData} (h : RZ n w d) (k : w ≤ 900) : d.shown.length ≤ 100000 := by
  have q := PyData.shown_le_bulk 100 (by decide) d h.lv
  have := h.wt
  omega
section
variable {α β : Type} {ea : α → PyData} {x : α}
end
end TL

namespace TL
open PySem PySem.Spec PyProof.Rows L2
section
variable {S τ l ρ α β γ : Type} {X E E1 : EP S}
def rStill (m : R Unit ρ) : R Unit ρ := match m with
  | .ex _ _ _ => .stuck
  | m => m
@[simp] theorem rStill_ok (r : ρ) (u : Unit) : rStill (.ok r u) = .ok r u := rfl
end
section
variable {S α β ρ τ τ2 l : Type} {c : Str} {fs : List (Str × PyData)}
end
end TL

namespace TL
open PySem PySem.Spec PyProof.Rows L2
variable {S α : Type} {X E E1 : EP S}
end TL

namespace TL
open PySem PySem.Spec PyProof.Rows L2
section
variable {S α β : Type} {X E E1 : EP S}
end
end TL

namespace TL
open PySem PySem.Spec PyProof.Rows L2
section
variable {S α β : Type} {X E E1 : EP S}
end
end TL

namespace TL
open PySem PySem.Spec PyProof.Rows L2
section
variable {S α β : Type} {X E E1 : EP S}
end
end TL

namespace TL
open PySem PySem.Spec PyProof.Rows L2
section
variable {S α β : Type} {X E E1 : EP S}
def oDict1 : List ((Int × Int) × Int) → Option PyData
  | [_] => some (.dict [])
  | _ => none
theorem re_dict1 {m : QM S (List ((Int × Int) × Int))} {ds : List D} (h : RE X E E1 m (fun p => [eL (eT2 (eT2 eI eI) eI) p]) (dArgs ds)) : RE X E E1 (r1 oDict1 m) eA (dCB pyDict1 ds) := re_cb (fun x z hz => by
  unfold oDict1 at hz
  split at hz
  · cases hz
    rfl
  · cases hz) h
def semD (o : OutF) : R Unit PyData := match o with
  | .val v _ => .ok v ()
  | .ex c fs _ => .ex c fs ()
  | _ => .stuck
theorem RF_semD (o : OutF) : RF noS eA (semD o) o := by
  unfold semD
  split
  · exact ⟨_, .inl rfl⟩
  · exact ⟨_, rfl⟩
  · trivial
end
end TL

namespace TL
def mvV (t : Vc) (p : Vc) : Vc := (p.1 + t.1, p.2 + t.2)
@[simp] theorem toV_mv (t p q : Vc) : toV (mvV t p) (mvV t q) = toV p q := by
  unfold toV mvV
  exact Prod.ext (by dsimp only; omega) (by dsimp only; omega)
end TL

namespace TL
end TL

namespace TL
abbrev Ed := Vc × Vc
end TL

namespace TL
theorem mix {h A B C j : Int} (h0 : 0 < h) (j0 : 0 ≤ j) (j1 : j ≤ h) (a : 0 ≤ A) (b : 0 ≤ B) {w : Int} (e : h * w = (h - j) * A + j * B + C) (c : 0 ≤ C) : 0 ≤ w := by
  have h1 := Int.mul_nonneg (show 0 ≤ h - j by omega) a
  have h2 := Int.mul_nonneg j0 b
  exact nonneg_of_mul h0 (by omega)
end TL

namespace TL
end TL

namespace TL
def scV (k : Int) (p : Vc) : Vc := (p.1 * k, p.2 * k)
theorem toV_sc (k : Int) (p q : Vc) : toV (scV k p) (scV k q) = scV k (toV p q) := by
  unfold toV scV
  exact Prod.ext (by dsimp only; rw [Int.sub_mul]) (by dsimp only; rw [Int.sub_mul])
theorem plV_sc (k : Int) (p q : Vc) : plV (scV k p) (scV k q) = scV k (plV p q) := by
  unfold plV scV
  exact Prod.ext (by dsimp only; rw [Int.add_mul]) (by dsimp only; rw [Int.add_mul])
theorem crV_sc (k : Int) (p q : Vc) : crV (scV k p) (scV k q) = k * k * crV p q := by
  unfold crV scV
  grind
theorem scV_inj {k : Int} (hk : 0 < k) {p q : Vc} (h : scV k p = scV k q) : p = q := by
  unfold scV at h
  have h1 := congrArg Prod.fst h
  have h2 := congrArg Prod.snd h
  dsimp only at h1 h2
  exact Prod.ext (Int.eq_of_mul_eq_mul_right (by omega) h1) (Int.eq_of_mul_eq_mul_right (by omega) h2)
theorem chS_sc (k : Int) (f : Vc) : ∀ (o : Vc) (r : List Vc), chS (scV k f) (scV k o) (r.map (scV k)) = (chS f o r).map (scV k)
  | o, [] => by
    show [toV (scV k o) (scV k f)] = [scV k (toV o f)]
    rw [toV_sc]
  | o, b :: r => by
    show toV (scV k o) (scV k b) :: chS (scV k f) (scV k b) (r.map (scV k)) = scV k (toV o b) :: (chS f b r).map (scV k)
    rw [toV_sc, chS_sc k f b r]
def scE (k : Int) (x : Ed) : Ed := (scV k x.1, scV k x.2)
theorem chE_sc (k : Int) (f : Vc) : ∀ (o : Vc) (r : List Vc), chE (scV k f) (scV k o) (r.map (scV k)) = (chE f o r).map (scE k)
  | o, [] => by
    show [(scV k o, toV (scV k o) (scV k f))] = [scE k (o, toV o f)]
    rw [toV_sc]
    rfl
  | o, b :: r => by
    rw [List.map_cons, chE_cons, chE_cons, List.map_cons, chE_sc k f b r, toV_sc]
    rfl
theorem upB_sc {k : Int} (hk : 0 < k) (d : Vc) : upB (scV k d).1 (scV k d).2 = upB d.1 d.2 := by
  have s : ∀ x : Int, (0 < x * k ↔ 0 < x) ∧ (x * k = 0 ↔ x = 0) := fun x => by
    rcases Int.lt_trichotomy x 0 with z | z | z
    · have := Int.mul_neg_of_neg_of_pos z hk
      omega
    · subst z
      rw [Int.zero_mul]
      omega
    · have := Int.mul_pos z hk
      omega
  have a := upB_iff d
  have b := upB_iff (scV k d)
  have e : UpV (scV k d) ↔ UpV d := by
    unfold UpV scV
    dsimp only
    have := s d.1
    have := s d.2
    omega
  rw [e, ← a] at b
  cases h1 : upB d.1 d.2 <;> cases h2 : upB (scV k d).1 (scV k d).2 <;> rw [h1, h2] at b <;> simp at b ⊢
theorem AhV.sc {k : Int} (hk : 0 < k) {d e : Vc} (h : AhV d e) : AhV (scV k d) (scV k e) := by
  unfold AhV aheadB at *
  rw [upB_sc hk, upB_sc hk]
  split
  · rename_i q
    rw [if_pos q, decide_eq_true_eq] at h
    rw [decide_eq_true_eq]
    have c := crV_sc k d e
    unfold crV at c
    have p : 0 < k * k * (d.1 * e.2 - d.2 * e.1) := Int.mul_pos (Int.mul_pos hk hk) (by omega)
    omega
  · rename_i q
    rw [if_neg q] at h
    exact h
theorem ris_sc {k : Int} (hk : 0 < k) : ∀ {l : List Vc}, RisV l → RisV (l.map (scV k))
  | [], _ => trivial
  | [_], _ => trivial
  | d :: e :: l, ⟨h1, h2⟩ => ⟨h1.sc hk, ris_sc hk h2⟩
theorem scV_nz {k : Int} (hk : 0 < k) {d : Vc} (h : d ≠ (0, 0)) : scV k d ≠ (0, 0) := fun z => h (scV_inj hk (z.trans (by unfold scV; simp)))
theorem PolyV.sc {f : Vc} {r : List Vc} (P : PolyV f r) {k : Int} (hk : 0 < k) : PolyV (scV k f) (r.map (scV k)) where
  nz := fun x hx => by
    rw [chE_sc, List.mem_map] at hx
    obtain ⟨y, hy, e⟩ := hx
    rw [← e]
    exact scV_nz hk (P.nz y hy)
  ris := by rw [chS_sc]; exact ris_sc hk P.ris
  nd := by
    have := P.nd
    rw [← List.map_cons (f := scV k), List.nodup_iff_pairwise_ne, List.pairwise_map]
    exact (List.nodup_iff_pairwise_ne.mp this).imp fun n e => n (scV_inj hk e)
  cvx := fun x hx p hp => by
    rw [chE_sc, List.mem_map] at hx
    obtain ⟨y, hy, e⟩ := hx
    rw [← List.map_cons (f := scV k), List.mem_map] at hp
    obtain ⟨q, hq, e2⟩ := hp
    rw [← e, ← e2]
    show 0 < crV (scV k y.2) (toV (scV k y.1) (scV k q)) ∨ crV (scV k y.2) (toV (scV k y.1) (scV k q)) = 0 ∧ (scV k q = scV k y.1 ∨ scV k q = plV (scV k y.1) (scV k y.2))
    rw [toV_sc, crV_sc, plV_sc]
    rcases P.cvx y hy q hq with z | ⟨z, z2 | z2⟩
    · exact .inl (Int.mul_pos (Int.mul_pos hk hk) z)
    · exact .inr ⟨by rw [z, Int.mul_zero], .inl (by rw [z2])⟩
    · exact .inr ⟨by rw [z, Int.mul_zero], .inr (by rw [z2])⟩
end TL

namespace TL
end TL

namespace TL
end TL

namespace TL
end TL

namespace Lw
open PySem PySem.Spec PyProof.Rows L2 TL
variable [Tbl]
def topS (i : Nat) : Stmt := PySem.Challenge.pw_gridshapes_k03_points_and_vectors_refuse.main.body.getD i (.Pass ⟨0, 0, 0, 0⟩)
def ct_NoVector : Str → Option Bool := fun c => if c = "ShapeError" then some false else if c = "NoVector" then some true else none
def kn_NoVector : Str → Bool := fun c => decide (c = "NoVector")
def c_POINT_MOST : Int := (10 ^ 60)
def c_VECTORS_MOST : Int := 200
def c_VECTOR_MOST : Int := (10 ^ 61)
structure Nm (mg : Str → Option Value) : Prop where
  n_abs : mg "abs" = none
  n_bool : mg "bool" = none
  n_dict : mg "dict" = none
  n_int : mg "int" = none
  n_isinstance : mg "isinstance" = none
  n_len : mg "len" = none
  n_list : mg "list" = none
  n_max : mg "max" = none
  n_range : mg "range" = none
  n_tuple : mg "tuple" = none
  n_gcd : mg "gcd" = some (.builtin "math.gcd")
  n_ValueError : mg "ValueError" = none
  m_POINT_MOST : ∃ uv, mg "POINT_MOST" = some uv ∧ RelV (.int c_POINT_MOST) uv
  m_VECTORS_MOST : ∃ uv, mg "VECTORS_MOST" = some uv ∧ RelV (.int c_VECTORS_MOST) uv
  m_VECTOR_MOST : ∃ uv, mg "VECTOR_MOST" = some uv ∧ RelV (.int c_VECTOR_MOST) uv
abbrev s_is_number : Stmt := topS 8
theorem sc_is_number : FnScope ["value"] ["value"] (defScope s_is_number) := ⟨rfl, rfl, rfl, by decide +kernel, rfl, by decide +kernel, by decide +kernel⟩
noncomputable def b_is_number : DS :=
    (dRet (dAndV (dIsA "int" (dVar 0)) (dNotV (dIsA "bool" (dVar 0)))))
noncomputable def F_is_number : Fn := runF 1 b_is_number
theorem ok_is_number {P : Program} {w : World} {K : PySem.W.Frag} {mg : Str → Option Value} {base : Heap} {f : Addr} {fd : FuncData} (N : Nm mg) (F : FunC K "is_number" "is_number" s_is_number f fd) :
    FnG P w K mg base (L2.CX P w) 1 f fd ["value"] (spOf K mg 1 F_is_number) 
    := fn_tells (k := 0) (body := b_is_number) F sc_is_number (by decide) (by decide) (by decide) fun cdv hcd A outer s H E G => by
    refine dss_one ?_
    refine ds_ret ?_
    refine de_and ?_ ?_
    · refine de_isA N.n_isinstance ?_ (pe_ty (T := "int") (by rfl) N.n_int (by decide +kernel))
      exact de_var (pv 0)
    · refine de_one ?_
      refine de_not ?_
      refine de_isA N.n_isinstance ?_ (pe_ty (T := "bool") (by rfl) N.n_bool (by decide +kernel))
      exact de_var (pv 0)
abbrev s_is_row : Stmt := topS 10
theorem sc_is_row : FnScope ["value", "least", "most"] ["value", "least", "most"] (defScope s_is_row) := ⟨rfl, rfl, rfl, by decide +kernel, rfl, by decide +kernel, by decide +kernel⟩
noncomputable def b_is_row : DS :=
    (dRet (dAndV (dIsAny ["list", "tuple"] (dVar 0)) (dChain pyLe pyLe (dVar 1) (dCB pyLen [(dVar 0)]) (dVar 2))))
noncomputable def F_is_row : Fn := runF 3 b_is_row
theorem ok_is_row {P : Program} {w : World} {K : PySem.W.Frag} {mg : Str → Option Value} {base : Heap} {f : Addr} {fd : FuncData} (N : Nm mg) (F : FunC K "is_row" "is_row" s_is_row f fd) :
    FnG P w K mg base (L2.CX P w) 1 f fd ["value", "least", "most"] (spOf K mg 3 F_is_row) 
    := fn_tells (k := 0) (body := b_is_row) F sc_is_row (by decide) (by decide) (by decide) fun cdv hcd A outer s H E G => by
    refine dss_one ?_
    refine ds_ret ?_
    refine de_and ?_ ?_
    · refine de_isAny N.n_isinstance ?_ ?_
      · exact de_var (pv 0)
      · refine ptys_cons (pe_ty (T := "list") (by rfl) N.n_list (by decide +kernel)) ?_
        refine ptys_cons (pe_ty (T := "tuple") (by rfl) N.n_tuple (by decide +kernel)) ?_
        exact ptys_nil
    · refine de_one ?_
      refine de_chain op_le op_le od_le od_le ?_ ?_ ?_
      · exact de_var (pv 1)
      · refine de_len (es := []) N.n_len ?_
        refine das_cons ?_ ?_
        · exact de_var (pv 0)
        · exact das_nil
      · exact de_var (pv 2)
abbrev s_cross : Stmt := topS 17
theorem sc_cross : FnScope ["one", "other"] ["one", "other"] (defScope s_cross) := ⟨rfl, rfl, rfl, by decide +kernel, rfl, by decide +kernel, by decide +kernel⟩
noncomputable def b_cross : DS :=
    (dRet (dOp pySub (dOp pyMul (dOp pyIx (dVar 0) (dC (.int 0))) (dOp pyIx (dVar 1) (dC (.int 1)))) (dOp pyMul (dOp pyIx (dVar 0) (dC (.int 1))) (dOp pyIx (dVar 1) (dC (.int 0))))))
noncomputable def F_cross : Fn := runF 2 b_cross
theorem ok_cross {P : Program} {w : World} {K : PySem.W.Frag} {mg : Str → Option Value} {base : Heap} {f : Addr} {fd : FuncData} (N : Nm mg) (F : FunC K "cross" "cross" s_cross f fd) :
    FnG P w K mg base (L2.CX P w) 1 f fd ["one", "other"] (spOf K mg 2 F_cross) 
    := fn_tells (k := 0) (body := b_cross) F sc_cross (by decide) (by decide) (by decide) fun cdv hcd A outer s H E G => by
    refine dss_one ?_
    refine ds_ret ?_
    refine de_sub ?_ ?_
    · refine de_mul ?_ ?_
      · refine de_ix ?_ ?_
        · exact de_var (pv 0)
        · exact de_int
      · refine de_ix ?_ ?_
        · exact de_var (pv 1)
        · exact de_int
    · refine de_mul ?_ ?_
      · refine de_ix ?_ ?_
        · exact de_var (pv 0)
        · exact de_int
      · refine de_ix ?_ ?_
        · exact de_var (pv 1)
        · exact de_int
abbrev s_dot : Stmt := topS 18
theorem sc_dot : FnScope ["one", "other"] ["one", "other"] (defScope s_dot) := ⟨rfl, rfl, rfl, by decide +kernel, rfl, by decide +kernel, by decide +kernel⟩
noncomputable def b_dot : DS :=
    (dRet (dOp pyAdd (dOp pyMul (dOp pyIx (dVar 0) (dC (.int 0))) (dOp pyIx (dVar 1) (dC (.int 0)))) (dOp pyMul (dOp pyIx (dVar 0) (dC (.int 1))) (dOp pyIx (dVar 1) (dC (.int 1))))))
noncomputable def F_dot : Fn := runF 2 b_dot
theorem ok_dot {P : Program} {w : World} {K : PySem.W.Frag} {mg : Str → Option Value} {base : Heap} {f : Addr} {fd : FuncData} (N : Nm mg) (F : FunC K "dot" "dot" s_dot f fd) :
    FnG P w K mg base (L2.CX P w) 1 f fd ["one", "other"] (spOf K mg 2 F_dot) 
    := fn_tells (k := 0) (body := b_dot) F sc_dot (by decide) (by decide) (by decide) fun cdv hcd A outer s H E G => by
    refine dss_one ?_
    refine ds_ret ?_
    refine de_add ?_ ?_
    · refine de_mul ?_ ?_
      · refine de_ix ?_ ?_
        · exact de_var (pv 0)
        · exact de_int
      · refine de_ix ?_ ?_
        · exact de_var (pv 1)
        · exact de_int
    · refine de_mul ?_ ?_
      · refine de_ix ?_ ?_
        · exact de_var (pv 0)
        · exact de_int
      · refine de_ix ?_ ?_
        · exact de_var (pv 1)
        · exact de_int
abbrev s_is_upper : Stmt := topS 19
theorem sc_is_upper : FnScope ["vector"] ["vector"] (defScope s_is_upper) := ⟨rfl, rfl, rfl, by decide +kernel, rfl, by decide +kernel, by decide +kernel⟩
noncomputable def b_is_upper : DS :=
    (dRet (dOrV (dOp pyGt (dOp pyIx (dVar 0) (dC (.int 1))) (dC (.int 0))) (dAndV (dOp pyEq (dOp pyIx (dVar 0) (dC (.int 1))) (dC (.int 0))) (dOp pyGt (dOp pyIx (dVar 0) (dC (.int 0))) (dC (.int 0))))))
noncomputable def F_is_upper : Fn := runF 1 b_is_upper
theorem ok_is_upper {P : Program} {w : World} {K : PySem.W.Frag} {mg : Str → Option Value} {base : Heap} {f : Addr} {fd : FuncData} (N : Nm mg) (F : FunC K "is_upper" "is_upper" s_is_upper f fd) :
    FnG P w K mg base (L2.CX P w) 1 f fd ["vector"] (spOf K mg 1 F_is_upper) 
    := fn_tells (k := 0) (body := b_is_upper) F sc_is_upper (by decide) (by decide) (by decide) fun cdv hcd A outer s H E G => by
    refine dss_one ?_
    refine ds_ret ?_
    refine de_or ?_ ?_
    · refine de_gt ?_ ?_
      · refine de_ix ?_ ?_
        · exact de_var (pv 0)
        · exact de_int
      · exact de_int
    · refine de_one ?_
      refine de_and ?_ ?_
      · refine de_eq G ?_ ?_
        · refine de_ix ?_ ?_
          · exact de_var (pv 0)
          · exact de_int
        · exact de_int
      · refine de_one ?_
        refine de_gt ?_ ?_
        · refine de_ix ?_ ?_
          · exact de_var (pv 0)
          · exact de_int
        · exact de_int
abbrev s_bare_and_length : Stmt := topS 22
theorem sc_bare_and_length : FnScope ["vector", "length"] ["vector"] (defScope s_bare_and_length) := ⟨rfl, rfl, rfl, by decide +kernel, rfl, by decide +kernel, by decide +kernel⟩
noncomputable def b_bare_and_length : DS :=
    (dSeq (dAsg (dCB pyGcd [(dOp pyIx (dVar 0) (dC (.int 0))), (dOp pyIx (dVar 0) (dC (.int 1)))]) (gNm 1))
    (dRet (dTup [(dTup [(dOp pyDiv (dOp pyIx (dVar 0) (dC (.int 0))) (dVar 1)), (dOp pyDiv (dOp pyIx (dVar 0) (dC (.int 1))) (dVar 1))]), (dVar 1)])))
noncomputable def F_bare_and_length : Fn := runF 2 b_bare_and_length
theorem ok_bare_and_length {P : Program} {w : World} {K : PySem.W.Frag} {mg : Str → Option Value} {base : Heap} {f : Addr} {fd : FuncData} (N : Nm mg) (F : FunC K "bare_and_length" "bare_and_length" s_bare_and_length f fd) :
    FnG P w K mg base (L2.CX P w) 1 f fd ["vector"] (spOf K mg 1 F_bare_and_length) 
    := fn_tells (k := 0) (body := b_bare_and_length) F sc_bare_and_length (by decide) (by decide) (by decide) fun cdv hcd A outer s H E G => by
    refine dss_cons ?_ ?_
    · refine ds_set (i := 1) G.nd rfl (.inl rfl) ?_
      refine de_gcd N.n_gcd ?_
      refine das_cons ?_ ?_
      · refine de_ix ?_ ?_
        · exact de_var (pv 0)
        · exact de_int
      · refine das_cons ?_ ?_
        · refine de_ix ?_ ?_
          · exact de_var (pv 0)
          · exact de_int
        · exact das_nil
    · refine dss_one ?_
      refine ds_ret ?_
      refine de_tup ?_
      refine das_cons ?_ ?_
      · refine de_tup ?_
        refine das_cons ?_ ?_
        · refine de_div ?_ ?_
          · refine de_ix ?_ ?_
            · exact de_var (pv 0)
            · exact de_int
          · exact de_var (pv 1)
        · refine das_cons ?_ ?_
          · refine de_div ?_ ?_
            · refine de_ix ?_ ?_
              · exact de_var (pv 0)
              · exact de_int
            · exact de_var (pv 1)
          · exact das_nil
      · refine das_cons ?_ ?_
        · exact de_var (pv 1)
        · exact das_nil
abbrev s__law_pool : Stmt := topS 31
theorem sc__law_pool : FnScope ["_law_script", "_law_k", "_law_cell", "_law_big", "_law_mixed"] ["_law_script", "_law_k"] (defScope s__law_pool) := ⟨rfl, rfl, rfl, by decide +kernel, rfl, by decide +kernel, by decide +kernel⟩
noncomputable def b__law_pool : DS :=
    (dSeq (dAsg (dC (.int 0)) (gNm 2))
    (dSeq (dIfS (dBool (dOp pyLt (dVar 1) (dLenO 0))) (dAsg (dIxO 0 (dVar 1)) (gNm 2)) dPass)
    (dSeq (dAsg (dCB pyMax2 [(dCB pyInt [(dVar 2)]), (dCB pyInt [(dOp pySub (dNeg (dC (.int 1))) (dVar 2))])]) (gNm 3))
    (dSeq (dAsg (dOp pyMod (dCB pyInt [(dOp pyMul (dOp pyAdd (dOp pyAdd (dOp pyAdd (dOp pyMod (dCB pyInt [(dVar 3)]) (dC (.int 2147483629))) (dOp pyMul (dOp pyMul (dC (.int 7919)) (dVar 1)) (dVar 1))) (dOp pyMul (dC (.int 31)) (dVar 1))) (dC (.int 17))) (dC (.int 48271)))]) (dC (.int 2147483647))) (gNm 4))
    (dRetF (fLst [(dOp pyMul (dVar 3) (dCB pyInt [(dOp pyGe (dVar 3) (dOp pyPow (dC (.int 10)) (dC (.int 18))))])), (dVar 4)]))))))
noncomputable def F__law_pool : Fn := runF 5 b__law_pool
theorem ok__law_pool {P : Program} {w : World} {K : PySem.W.Frag} {mg : Str → Option Value} {base : Heap} {f : Addr} {fd : FuncData} (N : Nm mg) (F : FunC K "_law_pool" "_law_pool" s__law_pool f fd) :
    FnG P w K mg base (L2.CX P w) 1 f fd ["_law_script", "_law_k"] (spOf K mg 2 F__law_pool) 
    := fn_tells (k := 0) (body := b__law_pool) F sc__law_pool (by decide) (by decide) (by decide) fun cdv hcd A outer s H E G => by
    refine dss_cons ?_ ?_
    · refine ds_set (i := 2) G.nd rfl (.inl rfl) ?_
      exact de_int
    · refine dss_cons ?_ ?_
      · refine ds_if ?_ ?_ ?_
        · refine dt_lt ?_ ?_
          · exact de_var (pv 1)
          · exact de_lenO N.n_len (pv 0)
        · refine dss_one ?_
          refine ds_set (i := 2) G.nd rfl (.inl rfl) ?_
          refine de_ixO (pv 0) ?_
          exact de_var (pv 1)
        · exact dss_nil
      · refine dss_cons ?_ ?_
        · refine ds_set (i := 3) G.nd rfl (.inl rfl) ?_
          refine de_max2 G N.n_max ?_
          refine das_cons ?_ ?_
          · refine de_intC N.n_int ?_
            refine das_cons ?_ ?_
            · exact de_var (pv 2)
            · exact das_nil
          · refine das_cons ?_ ?_
            · refine de_intC N.n_int ?_
              refine das_cons ?_ ?_
              · refine de_sub ?_ ?_
                · refine de_neg ?_
                  exact de_int
                · exact de_var (pv 2)
              · exact das_nil
            · exact das_nil
        · refine dss_cons ?_ ?_
          · refine ds_set (i := 4) G.nd rfl (.inl rfl) ?_
            refine de_mod ?_ ?_
            · refine de_intC N.n_int ?_
              refine das_cons ?_ ?_
              · refine de_mul ?_ ?_
                · refine de_add ?_ ?_
                  · refine de_add ?_ ?_
                    · refine de_add ?_ ?_
                      · refine de_mod ?_ ?_
                        · refine de_intC N.n_int ?_
                          refine das_cons ?_ ?_
                          · exact de_var (pv 3)
                          · exact das_nil
                        · exact de_int
                      · refine de_mul ?_ ?_
                        · refine de_mul ?_ ?_
                          · exact de_int
                          · exact de_var (pv 1)
                        · exact de_var (pv 1)
                    · refine de_mul ?_ ?_
                      · exact de_int
                      · exact de_var (pv 1)
                  · exact de_int
                · exact de_int
              · exact das_nil
            · exact de_int
          · refine dss_one ?_
            refine ds_retF ?_
            refine df_lst ?_
            refine das_cons ?_ ?_
            · refine de_mul ?_ ?_
              · exact de_var (pv 3)
              · refine de_intC N.n_int ?_
                refine das_cons ?_ ?_
                · refine de_ge ?_ ?_
                  · exact de_var (pv 3)
                  · refine de_pow ?_ ?_
                    · exact de_int
                    · exact de_int
                · exact das_nil
            · refine das_cons ?_ ?_
              · exact de_var (pv 4)
              · exact das_nil
abbrev s__law_take : Stmt := topS 32
theorem sc__law_take : FnScope ["_law_source", "_law_top", "_law_drawn"] ["_law_source", "_law_top"] (defScope s__law_take) := ⟨rfl, rfl, rfl, by decide +kernel, rfl, by decide +kernel, by decide +kernel⟩
noncomputable def b__law_take : DS :=
    (dSeq (dIfS (dBool (dOp pyGt (dIxO 0 (dC (.int 0))) (dC (.int 0)))) (dSeq (dAsg (dOp pyMod (dCB pyInt [(dIxO 0 (dC (.int 0)))]) (dVar 1)) (gNm 2))
    (dSeq (dSetIx 0 (dC (.int 0)) (dOp pyDiv (dIxO 0 (dC (.int 0))) (dVar 1)))
    (dRet (dVar 2)))) dPass)
    (dSeq (dSetIx 0 (dC (.int 1)) (dOp pyMod (dCB pyInt [(dOp pyAdd (dOp pyMul (dIxO 0 (dC (.int 1))) (dC (.int 39373))) (dC (.int 7)))]) (dC (.int 2147483647))))
    (dRet (dOp pyMod (dCB pyInt [(dOp pyDiv (dOp pyMod (dCB pyInt [(dOp pyMul (dIxO 0 (dC (.int 1))) (dIxO 0 (dC (.int 1))))]) (dC (.int 2147483629))) (dC (.int 32)))]) (dVar 1)))))
noncomputable def F__law_take : Fn := runF 3 b__law_take
theorem ok__law_take {P : Program} {w : World} {K : PySem.W.Frag} {mg : Str → Option Value} {base : Heap} {f : Addr} {fd : FuncData} (N : Nm mg) (F : FunC K "_law_take" "_law_take" s__law_take f fd) :
    FnG P w K mg base (L2.CX P w) 1 f fd ["_law_source", "_law_top"] (spOf K mg 2 F__law_take) 
    := fn_tells (k := 0) (body := b__law_take) F sc__law_take (by decide) (by decide) (by decide) fun cdv hcd A outer s H E G => by
    refine dss_cons ?_ ?_
    · refine ds_if ?_ ?_ ?_
      · refine dt_gt ?_ ?_
        · refine de_ixO (pv 0) ?_
          exact de_int
        · exact de_int
      · refine dss_cons ?_ ?_
        · refine ds_set (i := 2) G.nd rfl (.inl rfl) ?_
          refine de_mod ?_ ?_
          · refine de_intC N.n_int ?_
            refine das_cons ?_ ?_
            · refine de_ixO (pv 0) ?_
              exact de_int
            · exact das_nil
          · exact de_var (pv 1)
        · refine dss_cons ?_ ?_
          · refine ds_setIx (pv 0) ?_ ?_
            · exact de_int
            · refine de_div ?_ ?_
              · refine de_ixO (pv 0) ?_
                exact de_int
              · exact de_var (pv 1)
          · refine dss_one ?_
            refine ds_ret ?_
            exact de_var (pv 2)
      · exact dss_nil
    · refine dss_cons ?_ ?_
      · refine ds_setIx (pv 0) ?_ ?_
        · exact de_int
        · refine de_mod ?_ ?_
          · refine de_intC N.n_int ?_
            refine das_cons ?_ ?_
            · refine de_add ?_ ?_
              · refine de_mul ?_ ?_
                · refine de_ixO (pv 0) ?_
                  exact de_int
                · exact de_int
              · exact de_int
            · exact das_nil
          · exact de_int
      · refine dss_one ?_
        refine ds_ret ?_
        refine de_mod ?_ ?_
        · refine de_intC N.n_int ?_
          refine das_cons ?_ ?_
          · refine de_div ?_ ?_
            · refine de_mod ?_ ?_
              · refine de_intC N.n_int ?_
                refine das_cons ?_ ?_
                · refine de_mul ?_ ?_
                  · refine de_ixO (pv 0) ?_
                    exact de_int
                  · refine de_ixO (pv 0) ?_
                    exact de_int
                · exact das_nil
              · exact de_int
            · exact de_int
          · exact das_nil
        · exact de_var (pv 1)
abbrev s_is_number_pair : Stmt := topS 9
theorem sc_is_number_pair : FnScope ["value"] ["value"] (defScope s_is_number_pair) := ⟨rfl, rfl, rfl, by decide +kernel, rfl, by decide +kernel, by decide +kernel⟩
noncomputable def b_is_number_pair : DS :=
    (dRet (dAndV (dIsA "tuple" (dVar 0)) (dAndV (dOp pyEq (dCB pyLen [(dVar 0)]) (dC (.int 2))) (dAndV (dCall F_is_number [(dOp pyIx (dVar 0) (dC (.int 0)))]) (dCall F_is_number [(dOp pyIx (dVar 0) (dC (.int 1)))])))))
noncomputable def F_is_number_pair : Fn := runF 1 b_is_number_pair
theorem ok_is_number_pair {P : Program} {w : World} {K : PySem.W.Frag} {mg : Str → Option Value} {base : Heap} {f : Addr} {fd : FuncData} (N : Nm mg) (F : FunC K "is_number_pair" "is_number_pair" s_is_number_pair f fd) (h_c_is_number : Cal P w K mg base 1 "is_number" 1 F_is_number) :
    FnG P w K mg base (L2.CX P w) 2 f fd ["value"] (spOf K mg 1 F_is_number_pair) 
    := fn_tells (k := 1) (body := b_is_number_pair) F sc_is_number_pair (by decide) (by decide) (by decide) fun cdv hcd A outer s H E G => by
    refine dss_one ?_
    refine ds_ret ?_
    refine de_and ?_ ?_
    · refine de_isA N.n_isinstance ?_ (pe_ty (T := "tuple") (by rfl) N.n_tuple (by decide +kernel))
      exact de_var (pv 0)
    · refine de_and ?_ ?_
      · refine de_eq G ?_ ?_
        · refine de_len (es := []) N.n_len ?_
          refine das_cons ?_ ?_
          · exact de_var (pv 0)
          · exact das_nil
        · exact de_int
      · refine de_and ?_ ?_
        · refine de_call G h_c_is_number (by decide) ?_
          refine das_cons ?_ ?_
          · refine de_ix ?_ ?_
            · exact de_var (pv 0)
            · exact de_int
          · exact das_nil
        · refine de_one ?_
          refine de_call G h_c_is_number (by decide) ?_
          refine das_cons ?_ ?_
          · refine de_ix ?_ ?_
            · exact de_var (pv 0)
            · exact de_int
          · exact das_nil
abbrev s_is_slope_ahead : Stmt := topS 20
theorem sc_is_slope_ahead : FnScope ["one", "other"] ["one", "other"] (defScope s_is_slope_ahead) := ⟨rfl, rfl, rfl, by decide +kernel, rfl, by decide +kernel, by decide +kernel⟩
noncomputable def b_is_slope_ahead : DS :=
    (dSeq (dIfS (dBool (dOp pyNe (dCall F_is_upper [(dVar 0)]) (dCall F_is_upper [(dVar 1)]))) (dRet (dCall F_is_upper [(dVar 0)])) dPass)
    (dRet (dOp pyGt (dCall F_cross [(dVar 0), (dVar 1)]) (dC (.int 0)))))
noncomputable def F_is_slope_ahead : Fn := runF 2 b_is_slope_ahead
theorem ok_is_slope_ahead {P : Program} {w : World} {K : PySem.W.Frag} {mg : Str → Option Value} {base : Heap} {f : Addr} {fd : FuncData} (N : Nm mg) (F : FunC K "is_slope_ahead" "is_slope_ahead" s_is_slope_ahead f fd) (h_c_cross : Cal P w K mg base 1 "cross" 2 F_cross) (h_c_is_upper : Cal P w K mg base 1 "is_upper" 1 F_is_upper) :
    FnG P w K mg base (L2.CX P w) 2 f fd ["one", "other"] (spOf K mg 2 F_is_slope_ahead) 
    := fn_tells (k := 1) (body := b_is_slope_ahead) F sc_is_slope_ahead (by decide) (by decide) (by decide) fun cdv hcd A outer s H E G => by
    refine dss_cons ?_ ?_
    · refine ds_if ?_ ?_ ?_
      · refine dt_ne G ?_ ?_
        · refine de_call G h_c_is_upper (by decide) ?_
          refine das_cons ?_ ?_
          · exact de_var (pv 0)
          · exact das_nil
        · refine de_call G h_c_is_upper (by decide) ?_
          refine das_cons ?_ ?_
          · exact de_var (pv 1)
          · exact das_nil
      · refine dss_one ?_
        refine ds_ret ?_
        refine de_call G h_c_is_upper (by decide) ?_
        refine das_cons ?_ ?_
        · exact de_var (pv 0)
        · exact das_nil
      · exact dss_nil
    · refine dss_one ?_
      refine ds_ret ?_
      refine de_gt ?_ ?_
      · refine de_call G h_c_cross (by decide) ?_
        refine das_cons ?_ ?_
        · exact de_var (pv 0)
        · refine das_cons ?_ ?_
          · exact de_var (pv 1)
          · exact das_nil
      · exact de_int
abbrev s_is_slope_alike : Stmt := topS 21
theorem sc_is_slope_alike : FnScope ["one", "other"] ["one", "other"] (defScope s_is_slope_alike) := ⟨rfl, rfl, rfl, by decide +kernel, rfl, by decide +kernel, by decide +kernel⟩
noncomputable def b_is_slope_alike : DS :=
    (dRet (dAndV (dOp pyEq (dCall F_cross [(dVar 0), (dVar 1)]) (dC (.int 0))) (dOp pyGt (dCall F_dot [(dVar 0), (dVar 1)]) (dC (.int 0)))))
noncomputable def F_is_slope_alike : Fn := runF 2 b_is_slope_alike
theorem ok_is_slope_alike {P : Program} {w : World} {K : PySem.W.Frag} {mg : Str → Option Value} {base : Heap} {f : Addr} {fd : FuncData} (N : Nm mg) (F : FunC K "is_slope_alike" "is_slope_alike" s_is_slope_alike f fd) (h_c_cross : Cal P w K mg base 1 "cross" 2 F_cross) (h_c_dot : Cal P w K mg base 1 "dot" 2 F_dot) :
    FnG P w K mg base (L2.CX P w) 2 f fd ["one", "other"] (spOf K mg 2 F_is_slope_alike) 
    := fn_tells (k := 1) (body := b_is_slope_alike) F sc_is_slope_alike (by decide) (by decide) (by decide) fun cdv hcd A outer s H E G => by
    refine dss_one ?_
    refine ds_ret ?_
    refine de_and ?_ ?_
    · refine de_eq G ?_ ?_
      · refine de_call G h_c_cross (by decide) ?_
        refine das_cons ?_ ?_
        · exact de_var (pv 0)
        · refine das_cons ?_ ?_
          · exact de_var (pv 1)
          · exact das_nil
      · exact de_int
    · refine de_one ?_
      refine de_gt ?_ ?_
      · refine de_call G h_c_dot (by decide) ?_
        refine das_cons ?_ ?_
        · exact de_var (pv 0)
        · refine das_cons ?_ ?_
          · exact de_var (pv 1)
          · exact das_nil
      · exact de_int
abbrev s_bare_of : Stmt := topS 23
theorem sc_bare_of : FnScope ["vector", "bare", "_"] ["vector"] (defScope s_bare_of) := ⟨rfl, rfl, rfl, by decide +kernel, rfl, by decide +kernel, by decide +kernel⟩
noncomputable def b_bare_of : DS :=
    (dSeq (dAsg (dCall F_bare_and_length [(dVar 0)]) (gTp 2 (gsC (gNm 1) (gsC (gNm 2) gs0))))
    (dRet (dVar 1)))
noncomputable def F_bare_of : Fn := runF 3 b_bare_of
theorem ok_bare_of {P : Program} {w : World} {K : PySem.W.Frag} {mg : Str → Option Value} {base : Heap} {f : Addr} {fd : FuncData} (N : Nm mg) (F : FunC K "bare_of" "bare_of" s_bare_of f fd) (h_c_bare_and_length : Cal P w K mg base 1 "bare_and_length" 1 F_bare_and_length) :
    FnG P w K mg base (L2.CX P w) 2 f fd ["vector"] (spOf K mg 1 F_bare_of) 
    := fn_tells (k := 1) (body := b_bare_of) F sc_bare_of (by decide) (by decide) (by decide) fun cdv hcd A outer s H E G => by
    refine dss_cons ?_ ?_
    · refine ds_asg ?_ ?_
      · refine de_call G h_c_bare_and_length (by decide) ?_
        refine das_cons ?_ ?_
        · exact de_var (pv 0)
        · exact das_nil
      · refine dg_tup G.calm ?_
        refine dgs_cons ?_ ?_
        · exact dg_name (pg_name (i := 1) G.nd rfl (.inl rfl))
        · refine dgs_cons ?_ ?_
          · exact dg_name (pg_name (i := 2) G.nd rfl (.inl rfl))
          · exact dgs_nil
    · refine dss_one ?_
      refine ds_ret ?_
      exact de_var (pv 1)
abbrev s__law_one : Stmt := topS 33
theorem sc__law_one : FnScope ["_law_source", "_law_things"] ["_law_source", "_law_things"] (defScope s__law_one) := ⟨rfl, rfl, rfl, by decide +kernel, rfl, by decide +kernel, by decide +kernel⟩
noncomputable def b__law_one : DS :=
    (dRet (dOp pyIx (dVar 1) (dCallS F__law_take 0 [(dCB pyLen [(dVar 1)])])))
noncomputable def F__law_one : Fn := runF 2 b__law_one
theorem ok__law_one {P : Program} {w : World} {K : PySem.W.Frag} {mg : Str → Option Value} {base : Heap} {f : Addr} {fd : FuncData} (N : Nm mg) (F : FunC K "_law_one" "_law_one" s__law_one f fd) (h_c__law_take : Cal P w K mg base 1 "_law_take" 2 F__law_take) :
    FnG P w K mg base (L2.CX P w) 2 f fd ["_law_source", "_law_things"] (spOf K mg 2 F__law_one) 
    := fn_tells (k := 1) (body := b__law_one) F sc__law_one (by decide) (by decide) (by decide) fun cdv hcd A outer s H E G => by
    refine dss_one ?_
    refine ds_ret ?_
    refine de_ix ?_ ?_
    · exact de_var (pv 1)
    · refine de_callR G h_c__law_take (by decide) (pv 0) ?_
      refine das_cons ?_ ?_
      · refine de_len (es := []) N.n_len ?_
        refine das_cons ?_ ?_
        · exact de_var (pv 1)
        · exact das_nil
      · exact das_nil
abbrev s_is_fraction : Stmt := topS 11
theorem sc_is_fraction : FnScope ["value"] ["value"] (defScope s_is_fraction) := ⟨rfl, rfl, rfl, by decide +kernel, rfl, by decide +kernel, by decide +kernel⟩
noncomputable def b_is_fraction : DS :=
    (dRet (dAndV (dCall F_is_number_pair [(dVar 0)]) (dAndV (dOp pyGt (dOp pyIx (dVar 0) (dC (.int 1))) (dC (.int 0))) (dOp pyEq (dCB pyGcd [(dOp pyIx (dVar 0) (dC (.int 0))), (dOp pyIx (dVar 0) (dC (.int 1)))]) (dC (.int 1))))))
noncomputable def F_is_fraction : Fn := runF 1 b_is_fraction
theorem ok_is_fraction {P : Program} {w : World} {K : PySem.W.Frag} {mg : Str → Option Value} {base : Heap} {f : Addr} {fd : FuncData} (N : Nm mg) (F : FunC K "is_fraction" "is_fraction" s_is_fraction f fd) (h_c_is_number_pair : Cal P w K mg base 2 "is_number_pair" 1 F_is_number_pair) :
    FnG P w K mg base (L2.CX P w) 3 f fd ["value"] (spOf K mg 1 F_is_fraction) 
    := fn_tells (k := 2) (body := b_is_fraction) F sc_is_fraction (by decide) (by decide) (by decide) fun cdv hcd A outer s H E G => by
    refine dss_one ?_
    refine ds_ret ?_
    refine de_and ?_ ?_
    · refine de_call G h_c_is_number_pair (by decide) ?_
      refine das_cons ?_ ?_
      · exact de_var (pv 0)
      · exact das_nil
    · refine de_and ?_ ?_
      · refine de_gt ?_ ?_
        · refine de_ix ?_ ?_
          · exact de_var (pv 0)
          · exact de_int
        · exact de_int
      · refine de_one ?_
        refine de_eq G ?_ ?_
        · refine de_gcd N.n_gcd ?_
          refine das_cons ?_ ?_
          · refine de_ix ?_ ?_
            · exact de_var (pv 0)
            · exact de_int
          · refine das_cons ?_ ?_
            · refine de_ix ?_ ?_
              · exact de_var (pv 0)
              · exact de_int
            · exact das_nil
        · exact de_int
abbrev s_is_point : Stmt := topS 12
theorem sc_is_point : FnScope ["value"] ["value"] (defScope s_is_point) := ⟨rfl, rfl, rfl, by decide +kernel, rfl, by decide +kernel, by decide +kernel⟩
noncomputable def b_is_point : DS :=
    (dRet (dAndV (dCall F_is_number_pair [(dVar 0)]) (dOp pyLe (dCB pyMax2 [(dCB pyAbs [(dOp pyIx (dVar 0) (dC (.int 0)))]), (dCB pyAbs [(dOp pyIx (dVar 0) (dC (.int 1)))])]) (dC (.int c_POINT_MOST)))))
noncomputable def F_is_point : Fn := runF 1 b_is_point
theorem ok_is_point {P : Program} {w : World} {K : PySem.W.Frag} {mg : Str → Option Value} {base : Heap} {f : Addr} {fd : FuncData} (N : Nm mg) (F : FunC K "is_point" "is_point" s_is_point f fd) (h_c_is_number_pair : Cal P w K mg base 2 "is_number_pair" 1 F_is_number_pair) :
    FnG P w K mg base (L2.CX P w) 3 f fd ["value"] (spOf K mg 1 F_is_point) 
    := fn_tells (k := 2) (body := b_is_point) F sc_is_point (by decide) (by decide) (by decide) fun cdv hcd A outer s H E G => by
    refine dss_one ?_
    refine ds_ret ?_
    refine de_and ?_ ?_
    · refine de_call G h_c_is_number_pair (by decide) ?_
      refine das_cons ?_ ?_
      · exact de_var (pv 0)
      · exact das_nil
    · refine de_one ?_
      refine de_le ?_ ?_
      · refine de_max2 G N.n_max ?_
        refine das_cons ?_ ?_
        · refine de_abs N.n_abs ?_
          refine das_cons ?_ ?_
          · refine de_ix ?_ ?_
            · exact de_var (pv 0)
            · exact de_int
          · exact das_nil
        · refine das_cons ?_ ?_
          · refine de_abs N.n_abs ?_
            refine das_cons ?_ ?_
            · refine de_ix ?_ ?_
              · exact de_var (pv 0)
              · exact de_int
            · exact das_nil
          · exact das_nil
      · exact de_globI N.m_POINT_MOST
abbrev s_is_vector : Stmt := topS 14
theorem sc_is_vector : FnScope ["value"] ["value"] (defScope s_is_vector) := ⟨rfl, rfl, rfl, by decide +kernel, rfl, by decide +kernel, by decide +kernel⟩
noncomputable def b_is_vector : DS :=
    (dRet (dAndV (dCall F_is_number_pair [(dVar 0)]) (dOp pyLe (dCB pyMax2 [(dCB pyAbs [(dOp pyIx (dVar 0) (dC (.int 0)))]), (dCB pyAbs [(dOp pyIx (dVar 0) (dC (.int 1)))])]) (dC (.int c_VECTOR_MOST)))))
noncomputable def F_is_vector : Fn := runF 1 b_is_vector
theorem ok_is_vector {P : Program} {w : World} {K : PySem.W.Frag} {mg : Str → Option Value} {base : Heap} {f : Addr} {fd : FuncData} (N : Nm mg) (F : FunC K "is_vector" "is_vector" s_is_vector f fd) (h_c_is_number_pair : Cal P w K mg base 2 "is_number_pair" 1 F_is_number_pair) :
    FnG P w K mg base (L2.CX P w) 3 f fd ["value"] (spOf K mg 1 F_is_vector) 
    := fn_tells (k := 2) (body := b_is_vector) F sc_is_vector (by decide) (by decide) (by decide) fun cdv hcd A outer s H E G => by
    refine dss_one ?_
    refine ds_ret ?_
    refine de_and ?_ ?_
    · refine de_call G h_c_is_number_pair (by decide) ?_
      refine das_cons ?_ ?_
      · exact de_var (pv 0)
      · exact das_nil
    · refine de_one ?_
      refine de_le ?_ ?_
      · refine de_max2 G N.n_max ?_
        refine das_cons ?_ ?_
        · refine de_abs N.n_abs ?_
          refine das_cons ?_ ?_
          · refine de_ix ?_ ?_
            · exact de_var (pv 0)
            · exact de_int
          · exact das_nil
        · refine das_cons ?_ ?_
          · refine de_abs N.n_abs ?_
            refine das_cons ?_ ?_
            · refine de_ix ?_ ?_
              · exact de_var (pv 0)
              · exact de_int
            · exact das_nil
          · exact das_nil
      · exact de_globI N.m_VECTOR_MOST
abbrev s_merged_by_slope : Stmt := topS 27
theorem sc_merged_by_slope : FnScope ["one", "other", "merged", "at", "vector"] ["one", "other"] (defScope s_merged_by_slope) := ⟨rfl, rfl, rfl, by decide +kernel, rfl, by decide +kernel, by decide +kernel⟩
noncomputable def b_merged_by_slope : DS :=
    (dSeq (dAsgO 2 (fLst []))
    (dSeq (dAsg (dC (.int 0)) (gNm 3))
    (dSeq (dFor (dIt seqOf (dVar 0)) (gNm 4) (dSeq (dWhile (dAnd (dBool (dOp pyLt (dVar 3) (dCB pyLen [(dVar 1)]))) (dTruth (dCall F_is_slope_ahead [(dOp pyIx (dVar 1) (dVar 3)), (dVar 4)]))) (dSeq (dExpr (dAppend 2 (dOp pyIx (dVar 1) (dVar 3))))
    (dAug 3 pyAddI (dC (.int 1)))))
    (dExpr (dAppend 2 (dVar 4)))))
    (dSeq (dExpr (dMeth gExtK 2 [(dSl (dVar 1) (dPrt (dVar 3)) dNoP)]))
    (dRet (dVar 2))))))
noncomputable def F_merged_by_slope : Fn := runF 5 b_merged_by_slope
theorem ok_merged_by_slope {P : Program} {w : World} {K : PySem.W.Frag} {mg : Str → Option Value} {base : Heap} {f : Addr} {fd : FuncData} (N : Nm mg) (F : FunC K "merged_by_slope" "merged_by_slope" s_merged_by_slope f fd) (h_c_is_slope_ahead : Cal P w K mg base 2 "is_slope_ahead" 2 F_is_slope_ahead) :
    FnG P w K mg base (L2.CX P w) 3 f fd ["one", "other"] (spOf K mg 2 F_merged_by_slope) 
    := fn_tells (k := 2) (body := b_merged_by_slope) F sc_merged_by_slope (by decide) (by decide) (by decide) fun cdv hcd A outer s H E G => by
    refine dss_cons ?_ ?_
    · refine ds_setO (i := 2) G.nd rfl (.inl rfl) ?_
      refine df_lst ?_
      exact das_nil
    · refine dss_cons ?_ ?_
      · refine ds_set (i := 3) G.nd rfl (.inl rfl) ?_
        exact de_int
      · refine dss_cons ?_ ?_
        · refine ds_for G.own G.calm ?_ ?_ ?_
          · refine di_seq ?_
            exact de_var (pv 0)
          · exact dg_name (pg_name (i := 4) G.nd rfl (.inl rfl))
          · refine dss_cons ?_ ?_
            · refine ds_while G.own ?_ ?_
              · refine dt_w ?_
                refine dw_and ?_ ?_
                · refine dt_lt ?_ ?_
                  · exact de_var (pv 3)
                  · refine de_len (es := []) N.n_len ?_
                    refine das_cons ?_ ?_
                    · exact de_var (pv 1)
                    · exact das_nil
                · refine dw_and1 ?_
                  refine dt_truth ?_
                  refine de_call G h_c_is_slope_ahead (by decide) ?_
                  refine das_cons ?_ ?_
                  · refine de_ix ?_ ?_
                    · exact de_var (pv 1)
                    · exact de_var (pv 3)
                  · refine das_cons ?_ ?_
                    · exact de_var (pv 4)
                    · exact das_nil
              · refine dss_cons ?_ ?_
                · refine ds_expr ?_
                  refine de_append (pv 2) ?_
                  refine das_cons ?_ ?_
                  · refine de_ix ?_ ?_
                    · exact de_var (pv 1)
                    · exact de_var (pv 3)
                  · exact das_nil
                · refine dss_one ?_
                  refine ds_aug (i := 3) iop_add (od_I0 fun _ _ _ _ => .int _) G.nd rfl (.inl rfl) ?_
                  exact de_int
            · refine dss_one ?_
              refine ds_expr ?_
              refine de_append (pv 2) ?_
              refine das_cons ?_ ?_
              · exact de_var (pv 4)
              · exact das_nil
        · refine dss_cons ?_ ?_
          · refine ds_expr ?_
            refine de_extK (pv 2) ?_
            refine das_cons ?_ ?_
            · refine de_sl ?_ ?_ ?_
              · exact de_var (pv 1)
              · refine po_of ?_
                exact de_var (pv 3)
              · exact po_no
            · exact das_nil
          · refine dss_one ?_
            refine ds_ret ?_
            exact de_var (pv 2)
abbrev s__law_vector : Stmt := topS 34
theorem sc__law_vector : FnScope ["_law_source", "_law_times", "_law_vector_here", "_law_way"] ["_law_source"] (defScope s__law_vector) := ⟨rfl, rfl, rfl, by decide +kernel, rfl, by decide +kernel, by decide +kernel⟩
noncomputable def b__law_vector : DS :=
    (dSeq (dPar 2 3 (dTup [(dOp pySub (dCallS F__law_take 0 [(dC (.int 9))]) (dC (.int 4))), (dOp pySub (dCallS F__law_take 0 [(dC (.int 9))]) (dC (.int 4)))]) (dCallS F__law_take 0 [(dC (.int 6))]))
    (dSeq (dIfS (dBool (dOp pyEq (dVar 3) (dC (.int 0)))) (dAsg (dTup [(dOp pyIx (dVar 2) (dC (.int 0))), (dC (.int 0))]) (gNm 2)) dPass)
    (dSeq (dIfS (dBool (dOp pyEq (dVar 3) (dC (.int 1)))) (dAsg (dTup [(dC (.int 0)), (dOp pyIx (dVar 2) (dC (.int 1)))]) (gNm 2)) dPass)
    (dSeq (dAsg (dCallS F__law_one 0 [(dLst [(dC (.int 1)), (dC (.int 1)), (dC (.int 2)), (dC (.int 7)), (dOp pyPow (dC (.int 10)) (dC (.int 40)))])]) (gNm 1))
    (dRet (dIf (dBool (dOp pyNe (dVar 2) (dTup [(dC (.int 0)), (dC (.int 0))]))) (dTup [(dOp pyMul (dOp pyIx (dVar 2) (dC (.int 0))) (dVar 1)), (dOp pyMul (dOp pyIx (dVar 2) (dC (.int 1))) (dVar 1))]) (dTup [(dVar 1), (dC (.int 0))])))))))
noncomputable def F__law_vector : Fn := runF 4 b__law_vector
theorem ok__law_vector {P : Program} {w : World} {K : PySem.W.Frag} {mg : Str → Option Value} {base : Heap} {f : Addr} {fd : FuncData} (N : Nm mg) (F : FunC K "_law_vector" "_law_vector" s__law_vector f fd) (h_c__law_one : Cal P w K mg base 2 "_law_one" 2 F__law_one) (h_c__law_take : Cal P w K mg base 1 "_law_take" 2 F__law_take) :
    FnG P w K mg base (L2.CX P w) 3 f fd ["_law_source"] (spOf K mg 1 F__law_vector) 
    := fn_tells (k := 2) (body := b__law_vector) F sc__law_vector (by decide) (by decide) (by decide) fun cdv hcd A outer s H E G => by
    refine dss_cons ?_ ?_
    · refine ds_par (i := 2) (j := 3) G.calm G.nd rfl rfl (by decide) rfl rfl ?_
      refine das_cons ?_ ?_
      · refine de_tup ?_
        refine das_cons ?_ ?_
        · refine de_sub ?_ ?_
          · refine de_callR G h_c__law_take (by decide) (pv 0) ?_
            refine das_cons ?_ ?_
            · exact de_int
            · exact das_nil
          · exact de_int
        · refine das_cons ?_ ?_
          · refine de_sub ?_ ?_
            · refine de_callR G h_c__law_take (by decide) (pv 0) ?_
              refine das_cons ?_ ?_
              · exact de_int
              · exact das_nil
            · exact de_int
          · exact das_nil
      · refine das_cons ?_ ?_
        · refine de_callR G h_c__law_take (by decide) (pv 0) ?_
          refine das_cons ?_ ?_
          · exact de_int
          · exact das_nil
        · exact das_nil
    · refine dss_cons ?_ ?_
      · refine ds_if ?_ ?_ ?_
        · refine dt_eq G ?_ ?_
          · exact de_var (pv 3)
          · exact de_int
        · refine dss_one ?_
          refine ds_set (i := 2) G.nd rfl (.inl rfl) ?_
          refine de_tup ?_
          refine das_cons ?_ ?_
          · refine de_ix ?_ ?_
            · exact de_var (pv 2)
            · exact de_int
          · refine das_cons ?_ ?_
            · exact de_int
            · exact das_nil
        · exact dss_nil
      · refine dss_cons ?_ ?_
        · refine ds_if ?_ ?_ ?_
          · refine dt_eq G ?_ ?_
            · exact de_var (pv 3)
            · exact de_int
          · refine dss_one ?_
            refine ds_set (i := 2) G.nd rfl (.inl rfl) ?_
            refine de_tup ?_
            refine das_cons ?_ ?_
            · exact de_int
            · refine das_cons ?_ ?_
              · refine de_ix ?_ ?_
                · exact de_var (pv 2)
                · exact de_int
              · exact das_nil
          · exact dss_nil
        · refine dss_cons ?_ ?_
          · refine ds_set (i := 1) G.nd rfl (.inl rfl) ?_
            refine de_callR G h_c__law_one (by decide) (pv 0) ?_
            refine das_cons ?_ ?_
            · refine de_lst ?_
              refine das_cons ?_ ?_
              · exact de_int
              · refine das_cons ?_ ?_
                · exact de_int
                · refine das_cons ?_ ?_
                  · exact de_int
                  · refine das_cons ?_ ?_
                    · exact de_int
                    · refine das_cons ?_ ?_
                      · refine de_pow ?_ ?_
                        · exact de_int
                        · exact de_int
                      · exact das_nil
            · exact das_nil
          · refine dss_one ?_
            refine ds_ret ?_
            refine de_if ?_ ?_ ?_
            · refine dt_ne G ?_ ?_
              · exact de_var (pv 2)
              · refine de_tup ?_
                refine das_cons ?_ ?_
                · exact de_int
                · refine das_cons ?_ ?_
                  · exact de_int
                  · exact das_nil
            · refine de_tup ?_
              refine das_cons ?_ ?_
              · refine de_mul ?_ ?_
                · refine de_ix ?_ ?_
                  · exact de_var (pv 2)
                  · exact de_int
                · exact de_var (pv 1)
              · refine das_cons ?_ ?_
                · refine de_mul ?_ ?_
                  · refine de_ix ?_ ?_
                    · exact de_var (pv 2)
                    · exact de_int
                  · exact de_var (pv 1)
                · exact das_nil
            · refine de_tup ?_
              refine das_cons ?_ ?_
              · exact de_var (pv 1)
              · refine das_cons ?_ ?_
                · exact de_int
                · exact das_nil
abbrev s_is_fine_point : Stmt := topS 13
theorem sc_is_fine_point : FnScope ["value"] ["value"] (defScope s_is_fine_point) := ⟨rfl, rfl, rfl, by decide +kernel, rfl, by decide +kernel, by decide +kernel⟩
noncomputable def b_is_fine_point : DS :=
    (dRet (dAndV (dIsA "tuple" (dVar 0)) (dAndV (dOp pyEq (dCB pyLen [(dVar 0)]) (dC (.int 2))) (dAndV (dCall F_is_fraction [(dOp pyIx (dVar 0) (dC (.int 0)))]) (dCall F_is_fraction [(dOp pyIx (dVar 0) (dC (.int 1)))])))))
noncomputable def F_is_fine_point : Fn := runF 1 b_is_fine_point
theorem ok_is_fine_point {P : Program} {w : World} {K : PySem.W.Frag} {mg : Str → Option Value} {base : Heap} {f : Addr} {fd : FuncData} (N : Nm mg) (F : FunC K "is_fine_point" "is_fine_point" s_is_fine_point f fd) (h_c_is_fraction : Cal P w K mg base 3 "is_fraction" 1 F_is_fraction) :
    FnG P w K mg base (L2.CX P w) 4 f fd ["value"] (spOf K mg 1 F_is_fine_point) 
    := fn_tells (k := 3) (body := b_is_fine_point) F sc_is_fine_point (by decide) (by decide) (by decide) fun cdv hcd A outer s H E G => by
    refine dss_one ?_
    refine ds_ret ?_
    refine de_and ?_ ?_
    · refine de_isA N.n_isinstance ?_ (pe_ty (T := "tuple") (by rfl) N.n_tuple (by decide +kernel))
      exact de_var (pv 0)
    · refine de_and ?_ ?_
      · refine de_eq G ?_ ?_
        · refine de_len (es := []) N.n_len ?_
          refine das_cons ?_ ?_
          · exact de_var (pv 0)
          · exact das_nil
        · exact de_int
      · refine de_and ?_ ?_
        · refine de_call G h_c_is_fraction (by decide) ?_
          refine das_cons ?_ ?_
          · refine de_ix ?_ ?_
            · exact de_var (pv 0)
            · exact de_int
          · exact das_nil
        · refine de_one ?_
          refine de_call G h_c_is_fraction (by decide) ?_
          refine das_cons ?_ ?_
          · refine de_ix ?_ ?_
            · exact de_var (pv 0)
            · exact de_int
          · exact das_nil
abbrev s_is_direction : Stmt := topS 15
theorem sc_is_direction : FnScope ["value"] ["value"] (defScope s_is_direction) := ⟨rfl, rfl, rfl, by decide +kernel, rfl, by decide +kernel, by decide +kernel⟩
noncomputable def b_is_direction : DS :=
    (dRet (dAndV (dCall F_is_vector [(dVar 0)]) (dOp pyNe (dVar 0) (dTup [(dC (.int 0)), (dC (.int 0))]))))
noncomputable def F_is_direction : Fn := runF 1 b_is_direction
theorem ok_is_direction {P : Program} {w : World} {K : PySem.W.Frag} {mg : Str → Option Value} {base : Heap} {f : Addr} {fd : FuncData} (N : Nm mg) (F : FunC K "is_direction" "is_direction" s_is_direction f fd) (h_c_is_vector : Cal P w K mg base 3 "is_vector" 1 F_is_vector) :
    FnG P w K mg base (L2.CX P w) 4 f fd ["value"] (spOf K mg 1 F_is_direction) 
    := fn_tells (k := 3) (body := b_is_direction) F sc_is_direction (by decide) (by decide) (by decide) fun cdv hcd A outer s H E G => by
    refine dss_one ?_
    refine ds_ret ?_
    refine de_and ?_ ?_
    · refine de_call G h_c_is_vector (by decide) ?_
      refine das_cons ?_ ?_
      · exact de_var (pv 0)
      · exact das_nil
    · refine de_one ?_
      refine de_ne G ?_ ?_
      · exact de_var (pv 0)
      · refine de_tup ?_
        refine das_cons ?_ ?_
        · exact de_int
        · refine das_cons ?_ ?_
          · exact de_int
          · exact das_nil
abbrev s_need_direction : Stmt := topS 16
theorem sc_need_direction : FnScope ["vector"] ["vector"] (defScope s_need_direction) := ⟨rfl, rfl, rfl, by decide +kernel, rfl, by decide +kernel, by decide +kernel⟩
noncomputable def b_need_direction : DS :=
    (dIfS (dNot (dTruth (dCall F_is_direction [(dVar 0)]))) (dRaise "NoVector" "told" (dVar 0)) dPass)
noncomputable def F_need_direction : Fn := runF 1 b_need_direction
theorem ok_need_direction {P : Program} {w : World} {K : PySem.W.Frag} {mg : Str → Option Value} {base : Heap} {f : Addr} {fd : FuncData} (N : Nm mg) (F : FunC K "need_direction" "need_direction" s_need_direction f fd) (h_c_is_direction : Cal P w K mg base 4 "is_direction" 1 F_is_direction) (h_e_NoVector : Ecl P w K mg base "NoVector" "told") :
    FnG P w K mg base (L2.CX P w) 5 f fd ["vector"] (spOf K mg 1 F_need_direction) 
    := fn_tells (k := 4) (body := b_need_direction) F sc_need_direction (by decide) (by decide) (by decide) fun cdv hcd A outer s H E G => by
    refine dss_one ?_
    refine ds_if ?_ ?_ ?_
    · refine dt_not ?_
      refine dt_truth ?_
      refine de_call G h_c_is_direction (by decide) ?_
      refine das_cons ?_ ?_
      · exact de_var (pv 0)
      · exact das_nil
    · refine dss_one ?_
      refine ds_raise G (by decide) h_e_NoVector ?_
      exact de_var (pv 0)
    · exact dss_nil
abbrev s__law_points_right : Stmt := topS 37
theorem sc__law_points_right : FnScope ["_law_source", "_law_x", "_law_great", "_law_good", "_law_odds", "_law_odd", "_law_top"] ["_law_source", "_law_x"] (defScope s__law_points_right) := ⟨rfl, rfl, rfl, by decide +kernel, rfl, by decide +kernel, by decide +kernel⟩
noncomputable def b__law_points_right : DS :=
    (dSeq (dAsg (dCallS F__law_one 0 [(dLst [(dOp pyAdd (dOp pyPow (dC (.int 10)) (dC (.int 60))) (dC (.int 1))), (dOp pySub (dNeg (dOp pyPow (dC (.int 10)) (dC (.int 60)))) (dC (.int 1)))])]) (gNm 2))
    (dSeq (dFor (dIt itemsL (dLst [(dTup [(dVar 1), (dC (.int 0))]), (dTup [(dOp pyPow (dC (.int 10)) (dC (.int 60))), (dNeg (dOp pyPow (dC (.int 10)) (dC (.int 60))))]), (dTup [(dC (.int 0)), (dVar 1)])])) (gNm 3) (dIfS (dOr (dBool (dOp pyIsNot (dCall F_is_point [(dVar 3)]) (dC (.bool true)))) (dBool (dOp pyIsNot (dCall F_is_fine_point [(dTup [(dTup [(dVar 1), (dC (.int 1))]), (dTup [(dC (.int 1)), (dC (.int 2))])])]) (dC (.bool true))))) (dRet (dC (.bool false))) dPass))
    (dSeq (dAsg (dLst [(dTup [(dVar 2), (dC (.int 0))]), (dTup [(dC (.int 0)), (dVar 2)]), (dTup [(dVar 1)]), (dTup [(dVar 1), (dC (.int 0)), (dC (.int 0))]), (dLst [(dVar 1), (dC (.int 0))]), (dTup [(dC (.bool true)), (dC (.int 0))]), (dTup [(dVar 1), (dC .none)]), (dTup [(dTup [(dVar 1), (dC (.int 1))]), (dTup [(dC (.int 0)), (dC (.int 1))])]), (dVar 1), (dC .none)]) (gNm 4))
    (dSeq (dFor (dIt itemsL (dOp pyAdd (dVar 4) (dLst [(dC (.str "xy"))]))) (gNm 5) (dIfS (dBool (dOp pyIsNot (dCall F_is_point [(dVar 5)]) (dC (.bool false)))) (dRet (dC (.bool false))) dPass))
    (dSeq (dFor (dIt itemsL (dLst [(dTup [(dVar 1), (dC (.int 0))]), (dTup [(dTup [(dVar 1), (dC (.int 1))])]), (dTup [(dTup [(dC (.int 2)), (dC (.int 4))]), (dTup [(dVar 1), (dC (.int 1))])]), (dTup [(dTup [(dVar 1), (dC (.int 1))]), (dTup [(dC (.int 1)), (dC (.int 0))])]), (dLst [(dTup [(dVar 1), (dC (.int 1))]), (dTup [(dVar 1), (dC (.int 1))])]), (dTup [(dTup [(dVar 1), (dC (.int 1))]), (dTup [(dC (.int 3)), (dNeg (dC (.int 2)))])]), (dC .none), (dC (.int 7))])) (gNm 5) (dIfS (dBool (dOp pyIsNot (dCall F_is_fine_point [(dVar 5)]) (dC (.bool false)))) (dRet (dC (.bool false))) dPass))
    (dSeq (dAsg (dOp pyMul (dOp pyPow (dC (.int 10)) (dC (.int 60))) (dOp pyPow (dC (.int 10)) (dC (.int 39)))) (gNm 6))
    (dRet (dOp pyIs (dCallP F_is_fine_point [0] [(dTup [(dTup [(dVar 6), (dC (.int 1))]), (dTup [(dC (.int 1)), (dVar 6)])])]) (dC (.bool true))))))))))
noncomputable def F__law_points_right : Fn := runF 7 b__law_points_right
theorem ok__law_points_right {P : Program} {w : World} {K : PySem.W.Frag} {mg : Str → Option Value} {base : Heap} {f : Addr} {fd : FuncData} (N : Nm mg) (F : FunC K "_law_points_right" "_law_points_right" s__law_points_right f fd) (h_c__law_one : Cal P w K mg base 2 "_law_one" 2 F__law_one) (h_c_is_fine_point : Cal P w K mg base 4 "is_fine_point" 1 F_is_fine_point) (h_c_is_point : Cal P w K mg base 3 "is_point" 1 F_is_point) (h_k0_is_fine_point : CalK P w K mg base 4 "is_fine_point" 1 0 ["value"] [0] F_is_fine_point) :
    FnG P w K mg base (L2.CX P w) 5 f fd ["_law_source", "_law_x"] (spOf K mg 2 F__law_points_right) 
    := fn_tells (k := 4) (body := b__law_points_right) F sc__law_points_right (by decide) (by decide) (by decide) fun cdv hcd A outer s H E G => by
    refine dss_cons ?_ ?_
    · refine ds_set (i := 2) G.nd rfl (.inl rfl) ?_
      refine de_callR G h_c__law_one (by decide) (pv 0) ?_
      refine das_cons ?_ ?_
      · refine de_lst ?_
        refine das_cons ?_ ?_
        · refine de_add ?_ ?_
          · refine de_pow ?_ ?_
            · exact de_int
            · exact de_int
          · exact de_int
        · refine das_cons ?_ ?_
          · refine de_sub ?_ ?_
            · refine de_neg ?_
              refine de_pow ?_ ?_
              · exact de_int
              · exact de_int
            · exact de_int
          · exact das_nil
      · exact das_nil
    · refine dss_cons ?_ ?_
      · refine ds_for G.own G.calm ?_ ?_ ?_
        · refine di_list ?_
          refine de_lst ?_
          refine das_cons ?_ ?_
          · refine de_tup ?_
            refine das_cons ?_ ?_
            · exact de_var (pv 1)
            · refine das_cons ?_ ?_
              · exact de_int
              · exact das_nil
          · refine das_cons ?_ ?_
            · refine de_tup ?_
              refine das_cons ?_ ?_
              · refine de_pow ?_ ?_
                · exact de_int
                · exact de_int
              · refine das_cons ?_ ?_
                · refine de_neg ?_
                  refine de_pow ?_ ?_
                  · exact de_int
                  · exact de_int
                · exact das_nil
            · refine das_cons ?_ ?_
              · refine de_tup ?_
                refine das_cons ?_ ?_
                · exact de_int
                · refine das_cons ?_ ?_
                  · exact de_var (pv 1)
                  · exact das_nil
              · exact das_nil
        · exact dg_name (pg_name (i := 3) G.nd rfl (.inl rfl))
        · refine dss_one ?_
          refine ds_if ?_ ?_ ?_
          · refine dt_w ?_
            refine dw_or ?_ ?_
            · refine dt_isnot ?_ ?_
              · refine de_call G h_c_is_point (by decide) ?_
                refine das_cons ?_ ?_
                · exact de_var (pv 3)
                · exact das_nil
              · exact de_bl
            · refine dw_or1 ?_
              refine dt_isnot ?_ ?_
              · refine de_call G h_c_is_fine_point (by decide) ?_
                refine das_cons ?_ ?_
                · refine de_tup ?_
                  refine das_cons ?_ ?_
                  · refine de_tup ?_
                    refine das_cons ?_ ?_
                    · exact de_var (pv 1)
                    · refine das_cons ?_ ?_
                      · exact de_int
                      · exact das_nil
                  · refine das_cons ?_ ?_
                    · refine de_tup ?_
                      refine das_cons ?_ ?_
                      · exact de_int
                      · refine das_cons ?_ ?_
                        · exact de_int
                        · exact das_nil
                    · exact das_nil
                · exact das_nil
              · exact de_bl
          · refine dss_one ?_
            refine ds_ret ?_
            exact de_bl
          · exact dss_nil
      · refine dss_cons ?_ ?_
        · refine ds_set (i := 4) G.nd rfl (.inl rfl) ?_
          refine de_lst ?_
          refine das_cons ?_ ?_
          · refine de_tup ?_
            refine das_cons ?_ ?_
            · exact de_var (pv 2)
            · refine das_cons ?_ ?_
              · exact de_int
              · exact das_nil
          · refine das_cons ?_ ?_
            · refine de_tup ?_
              refine das_cons ?_ ?_
              · exact de_int
              · refine das_cons ?_ ?_
                · exact de_var (pv 2)
                · exact das_nil
            · refine das_cons ?_ ?_
              · refine de_tup ?_
                refine das_cons ?_ ?_
                · exact de_var (pv 1)
                · exact das_nil
              · refine das_cons ?_ ?_
                · refine de_tup ?_
                  refine das_cons ?_ ?_
                  · exact de_var (pv 1)
                  · refine das_cons ?_ ?_
                    · exact de_int
                    · refine das_cons ?_ ?_
                      · exact de_int
                      · exact das_nil
                · refine das_cons ?_ ?_
                  · refine de_lst ?_
                    refine das_cons ?_ ?_
                    · exact de_var (pv 1)
                    · refine das_cons ?_ ?_
                      · exact de_int
                      · exact das_nil
                  · refine das_cons ?_ ?_
                    · refine de_tup ?_
                      refine das_cons ?_ ?_
                      · exact de_bl
                      · refine das_cons ?_ ?_
                        · exact de_int
                        · exact das_nil
                    · refine das_cons ?_ ?_
                      · refine de_tup ?_
                        refine das_cons ?_ ?_
                        · exact de_var (pv 1)
                        · refine das_cons ?_ ?_
                          · exact de_non
                          · exact das_nil
                      · refine das_cons ?_ ?_
                        · refine de_tup ?_
                          refine das_cons ?_ ?_
                          · refine de_tup ?_
                            refine das_cons ?_ ?_
                            · exact de_var (pv 1)
                            · refine das_cons ?_ ?_
                              · exact de_int
                              · exact das_nil
                          · refine das_cons ?_ ?_
                            · refine de_tup ?_
                              refine das_cons ?_ ?_
                              · exact de_int
                              · refine das_cons ?_ ?_
                                · exact de_int
                                · exact das_nil
                            · exact das_nil
                        · refine das_cons ?_ ?_
                          · exact de_var (pv 1)
                          · refine das_cons ?_ ?_
                            · exact de_non
                            · exact das_nil
        · refine dss_cons ?_ ?_
          · refine ds_for G.own G.calm ?_ ?_ ?_
            · refine di_list ?_
              refine de_add ?_ ?_
              · exact de_var (pv 4)
              · refine de_lst ?_
                refine das_cons ?_ ?_
                · exact de_str
                · exact das_nil
            · exact dg_name (pg_name (i := 5) G.nd rfl (.inl rfl))
            · refine dss_one ?_
              refine ds_if ?_ ?_ ?_
              · refine dt_isnot ?_ ?_
                · refine de_call G h_c_is_point (by decide) ?_
                  refine das_cons ?_ ?_
                  · exact de_var (pv 5)
                  · exact das_nil
                · exact de_bl
              · refine dss_one ?_
                refine ds_ret ?_
                exact de_bl
              · exact dss_nil
          · refine dss_cons ?_ ?_
            · refine ds_for G.own G.calm ?_ ?_ ?_
              · refine di_list ?_
                refine de_lst ?_
                refine das_cons ?_ ?_
                · refine de_tup ?_
                  refine das_cons ?_ ?_
                  · exact de_var (pv 1)
                  · refine das_cons ?_ ?_
                    · exact de_int
                    · exact das_nil
                · refine das_cons ?_ ?_
                  · refine de_tup ?_
                    refine das_cons ?_ ?_
                    · refine de_tup ?_
                      refine das_cons ?_ ?_
                      · exact de_var (pv 1)
                      · refine das_cons ?_ ?_
                        · exact de_int
                        · exact das_nil
                    · exact das_nil
                  · refine das_cons ?_ ?_
                    · refine de_tup ?_
                      refine das_cons ?_ ?_
                      · refine de_tup ?_
                        refine das_cons ?_ ?_
                        · exact de_int
                        · refine das_cons ?_ ?_
                          · exact de_int
                          · exact das_nil
                      · refine das_cons ?_ ?_
                        · refine de_tup ?_
                          refine das_cons ?_ ?_
                          · exact de_var (pv 1)
                          · refine das_cons ?_ ?_
                            · exact de_int
                            · exact das_nil
                        · exact das_nil
                    · refine das_cons ?_ ?_
                      · refine de_tup ?_
                        refine das_cons ?_ ?_
                        · refine de_tup ?_
                          refine das_cons ?_ ?_
                          · exact de_var (pv 1)
                          · refine das_cons ?_ ?_
                            · exact de_int
                            · exact das_nil
                        · refine das_cons ?_ ?_
                          · refine de_tup ?_
                            refine das_cons ?_ ?_
                            · exact de_int
                            · refine das_cons ?_ ?_
                              · exact de_int
                              · exact das_nil
                          · exact das_nil
                      · refine das_cons ?_ ?_
                        · refine de_lst ?_
                          refine das_cons ?_ ?_
                          · refine de_tup ?_
                            refine das_cons ?_ ?_
                            · exact de_var (pv 1)
                            · refine das_cons ?_ ?_
                              · exact de_int
                              · exact das_nil
                          · refine das_cons ?_ ?_
                            · refine de_tup ?_
                              refine das_cons ?_ ?_
                              · exact de_var (pv 1)
                              · refine das_cons ?_ ?_
                                · exact de_int
                                · exact das_nil
                            · exact das_nil
                        · refine das_cons ?_ ?_
                          · refine de_tup ?_
                            refine das_cons ?_ ?_
                            · refine de_tup ?_
                              refine das_cons ?_ ?_
                              · exact de_var (pv 1)
                              · refine das_cons ?_ ?_
                                · exact de_int
                                · exact das_nil
                            · refine das_cons ?_ ?_
                              · refine de_tup ?_
                                refine das_cons ?_ ?_
                                · exact de_int
                                · refine das_cons ?_ ?_
                                  · refine de_neg ?_
                                    exact de_int
                                  · exact das_nil
                              · exact das_nil
                          · refine das_cons ?_ ?_
                            · exact de_non
                            · refine das_cons ?_ ?_
                              · exact de_int
                              · exact das_nil
              · exact dg_name (pg_name (i := 5) G.nd rfl (.inl rfl))
              · refine dss_one ?_
                refine ds_if ?_ ?_ ?_
                · refine dt_isnot ?_ ?_
                  · refine de_call G h_c_is_fine_point (by decide) ?_
                    refine das_cons ?_ ?_
                    · exact de_var (pv 5)
                    · exact das_nil
                  · exact de_bl
                · refine dss_one ?_
                  refine ds_ret ?_
                  exact de_bl
                · exact dss_nil
            · refine dss_cons ?_ ?_
              · refine ds_set (i := 6) G.nd rfl (.inl rfl) ?_
                refine de_mul ?_ ?_
                · refine de_pow ?_ ?_
                  · exact de_int
                  · exact de_int
                · refine de_pow ?_ ?_
                  · exact de_int
                  · exact de_int
              · refine dss_one ?_
                refine ds_ret ?_
                refine de_is ?_ ?_
                · refine de_callK0 G h_k0_is_fine_point (by decide) ?_
                  refine dks_cons ?_ ?_
                  · refine de_tup ?_
                    refine das_cons ?_ ?_
                    · refine de_tup ?_
                      refine das_cons ?_ ?_
                      · exact de_var (pv 6)
                      · refine das_cons ?_ ?_
                        · exact de_int
                        · exact das_nil
                    · refine das_cons ?_ ?_
                      · refine de_tup ?_
                        refine das_cons ?_ ?_
                        · exact de_int
                        · refine das_cons ?_ ?_
                          · exact de_var (pv 6)
                          · exact das_nil
                      · exact das_nil
                  · exact dks_nil
                · exact de_bl
abbrev s_comes_ahead : Stmt := topS 24
theorem sc_comes_ahead : FnScope ["one", "other"] ["one", "other"] (defScope s_comes_ahead) := ⟨rfl, rfl, rfl, by decide +kernel, rfl, by decide +kernel, by decide +kernel⟩
noncomputable def b_comes_ahead : DS :=
    (dSeq (dExpr (dCall F_need_direction [(dVar 0)]))
    (dSeq (dExpr (dCall F_need_direction [(dVar 1)]))
    (dRet (dCall F_is_slope_ahead [(dVar 0), (dVar 1)]))))
noncomputable def F_comes_ahead : Fn := runF 2 b_comes_ahead
theorem ok_comes_ahead {P : Program} {w : World} {K : PySem.W.Frag} {mg : Str → Option Value} {base : Heap} {f : Addr} {fd : FuncData} (N : Nm mg) (F : FunC K "comes_ahead" "comes_ahead" s_comes_ahead f fd) (h_c_is_slope_ahead : Cal P w K mg base 2 "is_slope_ahead" 2 F_is_slope_ahead) (h_c_need_direction : Cal P w K mg base 5 "need_direction" 1 F_need_direction) :
    FnG P w K mg base (L2.CX P w) 6 f fd ["one", "other"] (spOf K mg 2 F_comes_ahead) 
    := fn_tells (k := 5) (body := b_comes_ahead) F sc_comes_ahead (by decide) (by decide) (by decide) fun cdv hcd A outer s H E G => by
    refine dss_cons ?_ ?_
    · refine ds_expr ?_
      refine de_call G h_c_need_direction (by decide) ?_
      refine das_cons ?_ ?_
      · exact de_var (pv 0)
      · exact das_nil
    · refine dss_cons ?_ ?_
      · refine ds_expr ?_
        refine de_call G h_c_need_direction (by decide) ?_
        refine das_cons ?_ ?_
        · exact de_var (pv 1)
        · exact das_nil
      · refine dss_one ?_
        refine ds_ret ?_
        refine de_call G h_c_is_slope_ahead (by decide) ?_
        refine das_cons ?_ ?_
        · exact de_var (pv 0)
        · refine das_cons ?_ ?_
          · exact de_var (pv 1)
          · exact das_nil
abbrev s_same_slope : Stmt := topS 25
theorem sc_same_slope : FnScope ["one", "other"] ["one", "other"] (defScope s_same_slope) := ⟨rfl, rfl, rfl, by decide +kernel, rfl, by decide +kernel, by decide +kernel⟩
noncomputable def b_same_slope : DS :=
    (dSeq (dExpr (dCall F_need_direction [(dVar 0)]))
    (dSeq (dExpr (dCall F_need_direction [(dVar 1)]))
    (dRet (dCall F_is_slope_alike [(dVar 0), (dVar 1)]))))
noncomputable def F_same_slope : Fn := runF 2 b_same_slope
theorem ok_same_slope {P : Program} {w : World} {K : PySem.W.Frag} {mg : Str → Option Value} {base : Heap} {f : Addr} {fd : FuncData} (N : Nm mg) (F : FunC K "same_slope" "same_slope" s_same_slope f fd) (h_c_is_slope_alike : Cal P w K mg base 2 "is_slope_alike" 2 F_is_slope_alike) (h_c_need_direction : Cal P w K mg base 5 "need_direction" 1 F_need_direction) :
    FnG P w K mg base (L2.CX P w) 6 f fd ["one", "other"] (spOf K mg 2 F_same_slope) 
    := fn_tells (k := 5) (body := b_same_slope) F sc_same_slope (by decide) (by decide) (by decide) fun cdv hcd A outer s H E G => by
    refine dss_cons ?_ ?_
    · refine ds_expr ?_
      refine de_call G h_c_need_direction (by decide) ?_
      refine das_cons ?_ ?_
      · exact de_var (pv 0)
      · exact das_nil
    · refine dss_cons ?_ ?_
      · refine ds_expr ?_
        refine de_call G h_c_need_direction (by decide) ?_
        refine das_cons ?_ ?_
        · exact de_var (pv 1)
        · exact das_nil
      · refine dss_one ?_
        refine ds_ret ?_
        refine de_call G h_c_is_slope_alike (by decide) ?_
        refine das_cons ?_ ?_
        · exact de_var (pv 0)
        · refine das_cons ?_ ?_
          · exact de_var (pv 1)
          · exact das_nil
abbrev s_bare_vector : Stmt := topS 26
theorem sc_bare_vector : FnScope ["vector"] ["vector"] (defScope s_bare_vector) := ⟨rfl, rfl, rfl, by decide +kernel, rfl, by decide +kernel, by decide +kernel⟩
noncomputable def b_bare_vector : DS :=
    (dSeq (dExpr (dCall F_need_direction [(dVar 0)]))
    (dRet (dCall F_bare_of [(dVar 0)])))
noncomputable def F_bare_vector : Fn := runF 1 b_bare_vector
theorem ok_bare_vector {P : Program} {w : World} {K : PySem.W.Frag} {mg : Str → Option Value} {base : Heap} {f : Addr} {fd : FuncData} (N : Nm mg) (F : FunC K "bare_vector" "bare_vector" s_bare_vector f fd) (h_c_bare_of : Cal P w K mg base 2 "bare_of" 1 F_bare_of) (h_c_need_direction : Cal P w K mg base 5 "need_direction" 1 F_need_direction) :
    FnG P w K mg base (L2.CX P w) 6 f fd ["vector"] (spOf K mg 1 F_bare_vector) 
    := fn_tells (k := 5) (body := b_bare_vector) F sc_bare_vector (by decide) (by decide) (by decide) fun cdv hcd A outer s H E G => by
    refine dss_cons ?_ ?_
    · refine ds_expr ?_
      refine de_call G h_c_need_direction (by decide) ?_
      refine das_cons ?_ ?_
      · exact de_var (pv 0)
      · exact das_nil
    · refine dss_one ?_
      refine ds_ret ?_
      refine de_call G h_c_bare_of (by decide) ?_
      refine das_cons ?_ ?_
      · exact de_var (pv 0)
      · exact das_nil
abbrev s_sorted_by_slope : Stmt := topS 28
theorem sc_sorted_by_slope : FnScope ["vectors", "half"] ["vectors"] (defScope s_sorted_by_slope) := ⟨rfl, rfl, rfl, by decide +kernel, rfl, by decide +kernel, by decide +kernel⟩
noncomputable def b_sorted_by_slope (F_sorted_by_slope : Fn) : DS :=
    (dSeq (dIfS (dBool (dOp pyLt (dCB pyLen [(dVar 0)]) (dC (.int 2)))) (dRet (dOfF (dListF (dVar 0)))) dPass)
    (dSeq (dAsg (dOp pyDiv (dCB pyLen [(dVar 0)]) (dC (.int 2))) (gNm 1))
    (dRet (dCall F_merged_by_slope [(dCall F_sorted_by_slope [(dSl (dVar 0) dNoP (dPrt (dVar 1)))]), (dCall F_sorted_by_slope [(dSl (dVar 0) (dPrt (dVar 1)) dNoP)])]))))
noncomputable def Fr_sorted_by_slope : Nat → Fn
  | 0 => runF 2 fun _ => .stuck
  | n + 1 => runF 2 (b_sorted_by_slope (Fr_sorted_by_slope n))
noncomputable def F_sorted_by_slope : Fn := Fr_sorted_by_slope 12
theorem okr_sorted_by_slope {P : Program} {w : World} {K : PySem.W.Frag} {mg : Str → Option Value} {base : Heap} {f : Addr} {fd : FuncData} (N : Nm mg) (F : FunC K "sorted_by_slope" "sorted_by_slope" s_sorted_by_slope f fd) (hself : mg "sorted_by_slope" = some (.ref f)) (hkeep : PySem.W.keepIn K (.ref f) = true) (hbinds : L2.Binds K fd ["vectors"] []) (h_c_merged_by_slope : Cal P w K mg base 3 "merged_by_slope" 2 F_merged_by_slope) : ∀ n : Nat,
    FnG P w K mg base (L2.CX P w) (4 + n) f fd ["vectors"] (spOf K mg 1 (Fr_sorted_by_slope n))
  | 0 => fn_tells (k := 3) (body := fun _ => .stuck) F sc_sorted_by_slope (by decide) (by decide) (by decide) fun cdv hcd A outer s H E G => dss_never
  | n + 1 => by
    have h_c_sorted_by_slope : Cal P w K mg base (4 + n) "sorted_by_slope" 1 (Fr_sorted_by_slope n) := ⟨f, fd, ["vectors"], okr_sorted_by_slope N F hself hkeep hbinds h_c_merged_by_slope n, hself, hkeep, hbinds⟩
    refine fn_tells (k := 4 + n) (body := b_sorted_by_slope (Fr_sorted_by_slope n)) F sc_sorted_by_slope (by decide) (by decide) (by decide) fun cdv hcd A outer s H E G => ?_
    refine dss_cons ?_ ?_
    · refine ds_if ?_ ?_ ?_
      · refine dt_lt ?_ ?_
        · refine de_len (es := []) N.n_len ?_
          refine das_cons ?_ ?_
          · exact de_var (pv 0)
          · exact das_nil
        · exact de_int
      · refine dss_one ?_
        refine ds_ret ?_
        refine de_of_df ?_
        refine df_listOf N.n_list ?_
        refine das_cons ?_ ?_
        · exact de_var (pv 0)
        · exact das_nil
      · exact dss_nil
    · refine dss_cons ?_ ?_
      · refine ds_set (i := 1) G.nd rfl (.inl rfl) ?_
        refine de_div ?_ ?_
        · refine de_len (es := []) N.n_len ?_
          refine das_cons ?_ ?_
          · exact de_var (pv 0)
          · exact das_nil
        · exact de_int
      · refine dss_one ?_
        refine ds_ret ?_
        refine de_call G h_c_merged_by_slope (by omega) ?_
        refine das_cons ?_ ?_
        · refine de_call G h_c_sorted_by_slope (by omega) ?_
          refine das_cons ?_ ?_
          · refine de_sl ?_ ?_ ?_
            · exact de_var (pv 0)
            · exact po_no
            · refine po_of ?_
              exact de_var (pv 1)
          · exact das_nil
        · refine das_cons ?_ ?_
          · refine de_call G h_c_sorted_by_slope (by omega) ?_
            refine das_cons ?_ ?_
            · refine de_sl ?_ ?_ ?_
              · exact de_var (pv 0)
              · refine po_of ?_
                exact de_var (pv 1)
              · exact po_no
            · exact das_nil
          · exact das_nil
abbrev s_in_slopes : Stmt := topS 29
theorem sc_in_slopes : FnScope ["vectors", "vector"] ["vectors"] (defScope s_in_slopes) := ⟨rfl, rfl, rfl, by decide +kernel, rfl, by decide +kernel, by decide +kernel⟩
noncomputable def b_in_slopes : DS :=
    (dSeq (dIfS (dNot (dTruth (dCall F_is_row [(dVar 0), (dC (.int 0)), (dC (.int c_VECTORS_MOST))]))) (dRaise "NoVector" "told" (dC .none)) dPass)
    (dSeq (dFor (dIt seqOf (dVar 0)) (gNm 1) (dExpr (dCall F_need_direction [(dVar 1)])))
    (dRet (dCB pyTuple [(dCall F_sorted_by_slope [(dVar 0)])]))))
noncomputable def F_in_slopes : Fn := runF 2 b_in_slopes
theorem ok_in_slopes {P : Program} {w : World} {K : PySem.W.Frag} {mg : Str → Option Value} {base : Heap} {f : Addr} {fd : FuncData} (N : Nm mg) (F : FunC K "in_slopes" "in_slopes" s_in_slopes f fd) (h_c_is_row : Cal P w K mg base 1 "is_row" 3 F_is_row) (h_c_need_direction : Cal P w K mg base 5 "need_direction" 1 F_need_direction) (h_c_sorted_by_slope : Cal P w K mg base 16 "sorted_by_slope" 1 F_sorted_by_slope) (h_e_NoVector : Ecl P w K mg base "NoVector" "told") :
    FnG P w K mg base (L2.CX P w) 17 f fd ["vectors"] (spOf K mg 1 F_in_slopes) 
    := fn_tells (k := 16) (body := b_in_slopes) F sc_in_slopes (by decide) (by decide) (by decide) fun cdv hcd A outer s H E G => by
    refine dss_cons ?_ ?_
    · refine ds_if ?_ ?_ ?_
      · refine dt_not ?_
        refine dt_truth ?_
        refine de_call G h_c_is_row (by decide) ?_
        refine das_cons ?_ ?_
        · exact de_var (pv 0)
        · refine das_cons ?_ ?_
          · exact de_int
          · refine das_cons ?_ ?_
            · exact de_globI N.m_VECTORS_MOST
            · exact das_nil
      · refine dss_one ?_
        refine ds_raise G (by decide) h_e_NoVector ?_
        exact de_non
      · exact dss_nil
    · refine dss_cons ?_ ?_
      · refine ds_for G.own G.calm ?_ ?_ ?_
        · refine di_seq ?_
          exact de_var (pv 0)
        · exact dg_name (pg_name (i := 1) G.nd rfl (.inl rfl))
        · refine dss_one ?_
          refine ds_expr ?_
          refine de_call G h_c_need_direction (by decide) ?_
          refine das_cons ?_ ?_
          · exact de_var (pv 1)
          · exact das_nil
      · refine dss_one ?_
        refine ds_ret ?_
        refine de_tuple N.n_tuple ?_
        refine das_cons ?_ ?_
        · refine de_call G h_c_sorted_by_slope (by decide) ?_
          refine das_cons ?_ ?_
          · exact de_var (pv 0)
          · exact das_nil
        · exact das_nil
abbrev s__law_called : Stmt := topS 35
theorem sc__law_called : FnScope ["_law_way", "_law_first", "_law_second"] ["_law_way", "_law_first", "_law_second"] (defScope s__law_called) := ⟨rfl, rfl, rfl, by decide +kernel, rfl, by decide +kernel, by decide +kernel⟩
noncomputable def b__law_called : DS :=
    (dSeq (dIfS (dBool (dOp pyEq (dVar 0) (dC (.int 0)))) (dRet (dCall F_comes_ahead [(dVar 1), (dVar 2)])) dPass)
    (dSeq (dIfS (dBool (dOp pyEq (dVar 0) (dC (.int 1)))) (dRet (dCall F_same_slope [(dVar 1), (dVar 2)])) dPass)
    (dRet (dIf (dBool (dOp pyEq (dVar 0) (dC (.int 2)))) (dCall F_bare_vector [(dVar 1)]) (dCall F_in_slopes [(dVar 1)])))))
noncomputable def F__law_called : Fn := runF 3 b__law_called
theorem ok__law_called {P : Program} {w : World} {K : PySem.W.Frag} {mg : Str → Option Value} {base : Heap} {f : Addr} {fd : FuncData} (N : Nm mg) (F : FunC K "_law_called" "_law_called" s__law_called f fd) (h_c_bare_vector : Cal P w K mg base 6 "bare_vector" 1 F_bare_vector) (h_c_comes_ahead : Cal P w K mg base 6 "comes_ahead" 2 F_comes_ahead) (h_c_in_slopes : Cal P w K mg base 17 "in_slopes" 1 F_in_slopes) (h_c_same_slope : Cal P w K mg base 6 "same_slope" 2 F_same_slope) :
    FnG P w K mg base (L2.CX P w) 18 f fd ["_law_way", "_law_first", "_law_second"] (spOf K mg 3 F__law_called) 
    := fn_tells (k := 17) (body := b__law_called) F sc__law_called (by decide) (by decide) (by decide) fun cdv hcd A outer s H E G => by
    refine dss_cons ?_ ?_
    · refine ds_if ?_ ?_ ?_
      · refine dt_eq G ?_ ?_
        · exact de_var (pv 0)
        · exact de_int
      · refine dss_one ?_
        refine ds_ret ?_
        refine de_call G h_c_comes_ahead (by decide) ?_
        refine das_cons ?_ ?_
        · exact de_var (pv 1)
        · refine das_cons ?_ ?_
          · exact de_var (pv 2)
          · exact das_nil
      · exact dss_nil
    · refine dss_cons ?_ ?_
      · refine ds_if ?_ ?_ ?_
        · refine dt_eq G ?_ ?_
          · exact de_var (pv 0)
          · exact de_int
        · refine dss_one ?_
          refine ds_ret ?_
          refine de_call G h_c_same_slope (by decide) ?_
          refine das_cons ?_ ?_
          · exact de_var (pv 1)
          · refine das_cons ?_ ?_
            · exact de_var (pv 2)
            · exact das_nil
        · exact dss_nil
      · refine dss_one ?_
        refine ds_ret ?_
        refine de_if ?_ ?_ ?_
        · refine dt_eq G ?_ ?_
          · exact de_var (pv 0)
          · exact de_int
        · refine de_call G h_c_bare_vector (by decide) ?_
          refine das_cons ?_ ?_
          · exact de_var (pv 1)
          · exact das_nil
        · refine de_call G h_c_in_slopes (by decide) ?_
          refine das_cons ?_ ?_
          · exact de_var (pv 1)
          · exact das_nil
abbrev s__law_told : Stmt := topS 36
theorem sc__law_told : FnScope ["_law_way", "_law_first", "_law_second", "_law_told_here", "e"] ["_law_way", "_law_first", "_law_second"] (defScope s__law_told) := ⟨rfl, rfl, rfl, by decide +kernel, rfl, by decide +kernel, by decide +kernel⟩
noncomputable def b__law_told : DS :=
    (dSeq (dAsg (dC (.str "nothing")) (gNm 3))
    (dSeq (dTry ct_NoVector 4 (dExpr (dCall F__law_called [(dVar 0), (dVar 1), (dVar 2)])) (fun c fs => (dAsg ((fun c fs => dTup [((fun _ _ => (dC (.str "none"))) c fs), ((xTold kn_NoVector "told") c fs), ((xIs kn_NoVector) c fs)]) c fs) (gNm 3))))
    (dRet (dVar 3))))
noncomputable def F__law_told : Fn := runF 5 b__law_told
theorem ok__law_told {P : Program} {w : World} {K : PySem.W.Frag} {mg : Str → Option Value} {base : Heap} {f : Addr} {fd : FuncData} {a_NoVector : Addr} {a_ShapeError : Addr} (N : Nm mg) (F : FunC K "_law_told" "_law_told" s__law_told f fd) (h_c__law_called : Cal P w K mg base 18 "_law_called" 3 F__law_called) (h_g_NoVector : mg "NoVector" = some (.ref a_NoVector)) (h_g_ShapeError : mg "ShapeError" = some (.ref a_ShapeError)) (h_i_NoVector_ShapeError : ∀ c D, kn_NoVector c = true → mg c = some (.ref D) → PySem.W.isIn K (.ref D) a_ShapeError = true) (h_k_NoVector : ∀ c, kn_NoVector c = true → Ecl P w K mg base c "told") (h_m_NoVector : ∀ c b D, ct_NoVector c = some b → mg c = some (.ref D) → PySem.W.exmOne K (.ref D) (.ref a_NoVector) = some b) :
    FnG P w K mg base (L2.CX P w) 19 f fd ["_law_way", "_law_first", "_law_second"] (spOf K mg 3 F__law_told) 
    := fn_tells (k := 18) (body := b__law_told) F sc__law_told (by decide) (by decide) (by decide) fun cdv hcd A outer s H E G => by
    refine dss_cons ?_ ?_
    · refine ds_set (i := 3) G.nd rfl (.inl rfl) ?_
      exact de_str
    · refine dss_cons ?_ ?_
      · refine ds_try (i := 4) (catches := ct_NoVector) G rfl rfl rfl rfl h_g_NoVector h_m_NoVector ?_ ?_
        · intro W' pn xe G
          refine dss_one ?_
          refine ds_expr ?_
          refine de_call G h_c__law_called (by decide) ?_
          refine das_cons ?_ ?_
          · exact de_var (pv 0)
          · refine das_cons ?_ ?_
            · exact de_var (pv 1)
            · refine das_cons ?_ ?_
              · exact de_var (pv 2)
              · exact das_nil
        · intro a oe cls d pn hz hf
          refine xs_set (i := 3) G.nd rfl (.inl rfl) ?_
          refine xe_tup (n := 3) ?_
          refine xas_cons ?_ ?_
          · refine xe_of ?_
            exact de_str
          · refine xas_cons ?_ ?_
            · exact xe_told ⟨a, cls, d, 4⟩ G h_k_NoVector hz hf (pv 4)
            · refine xas_cons ?_ ?_
              · exact xe_is ⟨a, cls, d, 4⟩ G h_i_NoVector_ShapeError hz hf N.n_isinstance (pv 4) h_g_ShapeError
              · exact xas_nil
      · refine dss_one ?_
        refine ds_ret ?_
        exact de_var (pv 3)
abbrev s_law : Stmt := topS 38
theorem sc_law : FnScope ["_law_script", "_law_source", "_law_good", "_law_odds", "_law_odd", "_law_way", "_law_wrong"] ["_law_script"] (defScope s_law) := ⟨rfl, rfl, rfl, by decide +kernel, rfl, by decide +kernel, by decide +kernel⟩
noncomputable def b_law : DS :=
    (dSeq (dAsgO 1 (fCallS F__law_pool 0 [(dC (.int 0))]))
    (dSeq (dAsg (dCallS F__law_vector 1 []) (gNm 2))
    (dSeq (dAsg (dLst [(dTup [(dC (.int 0)), (dC (.int 0))]), (dTup [(dC (.int 1))]), (dLst [(dC (.int 1)), (dC (.int 0))]), (dTup [(dC (.int 1)), (dC (.int 0)), (dC (.int 0))]), (dTup [(dC (.bool true)), (dC (.int 0))]), (dTup [(dOp pyAdd (dOp pyPow (dC (.int 10)) (dC (.int 61))) (dC (.int 1))), (dC (.int 0))]), (dTup [(dC (.int 0)), (dOp pySub (dNeg (dOp pyPow (dC (.int 10)) (dC (.int 61)))) (dC (.int 1)))]), (dC .none), (dC (.int 5)), (dC (.str "v"))]) (gNm 3))
    (dSeq (dAsg (dCallS F__law_one 1 [(dVar 3)]) (gNm 4))
    (dSeq (dFor (dItA rng1 [(dC (.int 3))]) (gNm 5) (dIfS (dBool (dOp pyNe (dCall F__law_told [(dVar 5), (dVar 4), (dC .none)]) (dTup [(dC (.str "none")), (dVar 4), (dC (.bool true))]))) (dRet (dC (.bool false))) dPass))
    (dSeq (dFor (dItA rng1 [(dC (.int 2))]) (gNm 5) (dIfS (dOr (dBool (dOp pyNe (dCall F__law_told [(dVar 5), (dVar 2), (dVar 4)]) (dTup [(dC (.str "none")), (dVar 4), (dC (.bool true))]))) (dBool (dOp pyNe (dCall F__law_told [(dVar 5), (dVar 2), (dTup [(dOp pyPow (dC (.int 10)) (dC (.int 61))), (dC (.int 1))])]) (dC (.str "nothing"))))) (dRet (dC (.bool false))) dPass))
    (dSeq (dIfS (dOr (dBool (dOp pyNe (dCall F__law_told [(dC (.int 3)), (dLst [(dVar 2), (dVar 4), (dC .none)]), (dC .none)]) (dTup [(dC (.str "none")), (dVar 4), (dC (.bool true))]))) (dBool (dOp pyNe (dCall F__law_told [(dC (.int 3)), (dOp pyRepT (dTup [(dVar 2)]) (dC (.int 200))), (dC .none)]) (dC (.str "nothing"))))) (dRet (dC (.bool false))) dPass)
    (dSeq (dFor (dIt itemsL (dLst [(dC .none), (dC (.int 7)), (dC (.str "v")), (dOp pyRepT (dTup [(dVar 2)]) (dC (.int 201))), (dCB pyDict1 [(dLst [(dTup [(dVar 2), (dC (.int 1))])])])])) (gNm 6) (dIfS (dBool (dOp pyNe (dCall F__law_told [(dC (.int 3)), (dVar 6), (dC .none)]) (dTup [(dC (.str "none")), (dC .none), (dC (.bool true))]))) (dRet (dC (.bool false))) dPass))
    (dRet (dCallS F__law_points_right 1 [(dOp pySub (dCallS F__law_take 1 [(dC (.int 99))]) (dC (.int 49)))]))))))))))
noncomputable def F_law : Fn := runF 7 b_law
theorem ok_law {P : Program} {w : World} {K : PySem.W.Frag} {mg : Str → Option Value} {base : Heap} {f : Addr} {fd : FuncData} (N : Nm mg) (F : FunC K "law" "law" s_law f fd) (h_c__law_one : Cal P w K mg base 2 "_law_one" 2 F__law_one) (h_c__law_points_right : Cal P w K mg base 5 "_law_points_right" 2 F__law_points_right) (h_c__law_pool : Cal P w K mg base 1 "_law_pool" 2 F__law_pool) (h_c__law_take : Cal P w K mg base 1 "_law_take" 2 F__law_take) (h_c__law_told : Cal P w K mg base 19 "_law_told" 3 F__law_told) (h_c__law_vector : Cal P w K mg base 3 "_law_vector" 1 F__law_vector) :
    FnG P w K mg base (L2.CX P w) 20 f fd ["_law_script"] (spOf K mg 1 F_law) 
    := fn_tells (k := 19) (body := b_law) F sc_law (by decide) (by decide) (by decide) fun cdv hcd A outer s H E G => by
    refine dss_cons ?_ ?_
    · refine ds_setO (i := 1) G.nd rfl (.inl rfl) ?_
      refine df_callR G h_c__law_pool (by decide) (pv 0) ?_
      refine das_cons ?_ ?_
      · exact de_int
      · exact das_nil
    · refine dss_cons ?_ ?_
      · refine ds_set (i := 2) G.nd rfl (.inl rfl) ?_
        refine de_callR G h_c__law_vector (by decide) (pv 1) ?_
        exact das_nil
      · refine dss_cons ?_ ?_
        · refine ds_set (i := 3) G.nd rfl (.inl rfl) ?_
          refine de_lst ?_
          refine das_cons ?_ ?_
          · refine de_tup ?_
            refine das_cons ?_ ?_
            · exact de_int
            · refine das_cons ?_ ?_
              · exact de_int
              · exact das_nil
          · refine das_cons ?_ ?_
            · refine de_tup ?_
              refine das_cons ?_ ?_
              · exact de_int
              · exact das_nil
            · refine das_cons ?_ ?_
              · refine de_lst ?_
                refine das_cons ?_ ?_
                · exact de_int
                · refine das_cons ?_ ?_
                  · exact de_int
                  · exact das_nil
              · refine das_cons ?_ ?_
                · refine de_tup ?_
                  refine das_cons ?_ ?_
                  · exact de_int
                  · refine das_cons ?_ ?_
                    · exact de_int
                    · refine das_cons ?_ ?_
                      · exact de_int
                      · exact das_nil
                · refine das_cons ?_ ?_
                  · refine de_tup ?_
                    refine das_cons ?_ ?_
                    · exact de_bl
                    · refine das_cons ?_ ?_
                      · exact de_int
                      · exact das_nil
                  · refine das_cons ?_ ?_
                    · refine de_tup ?_
                      refine das_cons ?_ ?_
                      · refine de_add ?_ ?_
                        · refine de_pow ?_ ?_
                          · exact de_int
                          · exact de_int
                        · exact de_int
                      · refine das_cons ?_ ?_
                        · exact de_int
                        · exact das_nil
                    · refine das_cons ?_ ?_
                      · refine de_tup ?_
                        refine das_cons ?_ ?_
                        · exact de_int
                        · refine das_cons ?_ ?_
                          · refine de_sub ?_ ?_
                            · refine de_neg ?_
                              refine de_pow ?_ ?_
                              · exact de_int
                              · exact de_int
                            · exact de_int
                          · exact das_nil
                      · refine das_cons ?_ ?_
                        · exact de_non
                        · refine das_cons ?_ ?_
                          · exact de_int
                          · refine das_cons ?_ ?_
                            · exact de_str
                            · exact das_nil
        · refine dss_cons ?_ ?_
          · refine ds_set (i := 4) G.nd rfl (.inl rfl) ?_
            refine de_callR G h_c__law_one (by decide) (pv 1) ?_
            refine das_cons ?_ ?_
            · exact de_var (pv 3)
            · exact das_nil
          · refine dss_cons ?_ ?_
            · refine ds_for G.own G.calm ?_ ?_ ?_
              · refine di_range1 N.n_range ?_
                refine das_cons ?_ ?_
                · exact de_int
                · exact das_nil
              · exact dg_name (pg_name (i := 5) G.nd rfl (.inl rfl))
              · refine dss_one ?_
                refine ds_if ?_ ?_ ?_
                · refine dt_ne G ?_ ?_
                  · refine de_call G h_c__law_told (by decide) ?_
                    refine das_cons ?_ ?_
                    · exact de_var (pv 5)
                    · refine das_cons ?_ ?_
                      · exact de_var (pv 4)
                      · refine das_cons ?_ ?_
                        · exact de_non
                        · exact das_nil
                  · refine de_tup ?_
                    refine das_cons ?_ ?_
                    · exact de_str
                    · refine das_cons ?_ ?_
                      · exact de_var (pv 4)
                      · refine das_cons ?_ ?_
                        · exact de_bl
                        · exact das_nil
                · refine dss_one ?_
                  refine ds_ret ?_
                  exact de_bl
                · exact dss_nil
            · refine dss_cons ?_ ?_
              · refine ds_for G.own G.calm ?_ ?_ ?_
                · refine di_range1 N.n_range ?_
                  refine das_cons ?_ ?_
                  · exact de_int
                  · exact das_nil
                · exact dg_name (pg_name (i := 5) G.nd rfl (.inl rfl))
                · refine dss_one ?_
                  refine ds_if ?_ ?_ ?_
                  · refine dt_w ?_
                    refine dw_or ?_ ?_
                    · refine dt_ne G ?_ ?_
                      · refine de_call G h_c__law_told (by decide) ?_
                        refine das_cons ?_ ?_
                        · exact de_var (pv 5)
                        · refine das_cons ?_ ?_
                          · exact de_var (pv 2)
                          · refine das_cons ?_ ?_
                            · exact de_var (pv 4)
                            · exact das_nil
                      · refine de_tup ?_
                        refine das_cons ?_ ?_
                        · exact de_str
                        · refine das_cons ?_ ?_
                          · exact de_var (pv 4)
                          · refine das_cons ?_ ?_
                            · exact de_bl
                            · exact das_nil
                    · refine dw_or1 ?_
                      refine dt_ne G ?_ ?_
                      · refine de_call G h_c__law_told (by decide) ?_
                        refine das_cons ?_ ?_
                        · exact de_var (pv 5)
                        · refine das_cons ?_ ?_
                          · exact de_var (pv 2)
                          · refine das_cons ?_ ?_
                            · refine de_tup ?_
                              refine das_cons ?_ ?_
                              · refine de_pow ?_ ?_
                                · exact de_int
                                · exact de_int
                              · refine das_cons ?_ ?_
                                · exact de_int
                                · exact das_nil
                            · exact das_nil
                      · exact de_str
                  · refine dss_one ?_
                    refine ds_ret ?_
                    exact de_bl
                  · exact dss_nil
              · refine dss_cons ?_ ?_
                · refine ds_if ?_ ?_ ?_
                  · refine dt_w ?_
                    refine dw_or ?_ ?_
                    · refine dt_ne G ?_ ?_
                      · refine de_call G h_c__law_told (by decide) ?_
                        refine das_cons ?_ ?_
                        · exact de_int
                        · refine das_cons ?_ ?_
                          · refine de_lst ?_
                            refine das_cons ?_ ?_
                            · exact de_var (pv 2)
                            · refine das_cons ?_ ?_
                              · exact de_var (pv 4)
                              · refine das_cons ?_ ?_
                                · exact de_non
                                · exact das_nil
                          · refine das_cons ?_ ?_
                            · exact de_non
                            · exact das_nil
                      · refine de_tup ?_
                        refine das_cons ?_ ?_
                        · exact de_str
                        · refine das_cons ?_ ?_
                          · exact de_var (pv 4)
                          · refine das_cons ?_ ?_
                            · exact de_bl
                            · exact das_nil
                    · refine dw_or1 ?_
                      refine dt_ne G ?_ ?_
                      · refine de_call G h_c__law_told (by decide) ?_
                        refine das_cons ?_ ?_
                        · exact de_int
                        · refine das_cons ?_ ?_
                          · refine de_repT ?_ ?_
                            · refine de_tup ?_
                              refine das_cons ?_ ?_
                              · exact de_var (pv 2)
                              · exact das_nil
                            · exact de_int
                          · refine das_cons ?_ ?_
                            · exact de_non
                            · exact das_nil
                      · exact de_str
                  · refine dss_one ?_
                    refine ds_ret ?_
                    exact de_bl
                  · exact dss_nil
                · refine dss_cons ?_ ?_
                  · refine ds_for G.own G.calm ?_ ?_ ?_
                    · refine di_list ?_
                      refine de_lst ?_
                      refine das_cons ?_ ?_
                      · exact de_non
                      · refine das_cons ?_ ?_
                        · exact de_int
                        · refine das_cons ?_ ?_
                          · exact de_str
                          · refine das_cons ?_ ?_
                            · refine de_repT ?_ ?_
                              · refine de_tup ?_
                                refine das_cons ?_ ?_
                                · exact de_var (pv 2)
                                · exact das_nil
                              · exact de_int
                            · refine das_cons ?_ ?_
                              · refine de_dict1 G N.n_dict ?_
                                refine das_cons ?_ ?_
                                · refine de_lst ?_
                                  refine das_cons ?_ ?_
                                  · refine de_tup ?_
                                    refine das_cons ?_ ?_
                                    · exact de_var (pv 2)
                                    · refine das_cons ?_ ?_
                                      · exact de_int
                                      · exact das_nil
                                  · exact das_nil
                                · exact das_nil
                              · exact das_nil
                    · exact dg_name (pg_name (i := 6) G.nd rfl (.inl rfl))
                    · refine dss_one ?_
                      refine ds_if ?_ ?_ ?_
                      · refine dt_ne G ?_ ?_
                        · refine de_call G h_c__law_told (by decide) ?_
                          refine das_cons ?_ ?_
                          · exact de_int
                          · refine das_cons ?_ ?_
                            · exact de_var (pv 6)
                            · refine das_cons ?_ ?_
                              · exact de_non
                              · exact das_nil
                        · refine de_tup ?_
                          refine das_cons ?_ ?_
                          · exact de_str
                          · refine das_cons ?_ ?_
                            · exact de_non
                            · refine das_cons ?_ ?_
                              · exact de_bl
                              · exact das_nil
                      · refine dss_one ?_
                        refine ds_ret ?_
                        exact de_bl
                      · exact dss_nil
                  · refine dss_one ?_
                    refine ds_ret ?_
                    refine de_callR G h_c__law_points_right (by decide) (pv 1) ?_
                    refine das_cons ?_ ?_
                    · refine de_sub ?_ ?_
                      · refine de_callR G h_c__law_take (by decide) (pv 1) ?_
                        refine das_cons ?_ ?_
                        · exact de_int
                        · exact das_nil
                      · exact de_int
                    · exact das_nil
abbrev si_ShapeError : Stmt := inClass (topS 2) 0
theorem sci_ShapeError : FnScope ["self", "told"] ["self", "told"] (defScope si_ShapeError) := ⟨rfl, rfl, rfl, by decide +kernel, rfl, by decide +kernel, by decide +kernel⟩
theorem oki_ShapeError {P : Program} {w : World} {K : PySem.W.Frag} {mg : Str → Option Value} {base : Heap} {f : Addr} {fd : FuncData} (N : Nm mg) (F : Fun K "__init__" "ShapeError.__init__" si_ShapeError f fd) (vV : PySem.W.findCls K (.type "ValueError") (.type "type") "__init__" = some (.val (.builtin "ValueError.__init__"))) :
    FnOk P w K mg base (L2.CX P w) 1 f fd ["self", "told"] (spInitG OexC K "told") := by
  refine F.okX sci_ShapeError (fun vs H Q E ⟨a, C, y, hv, _⟩ => by subst hv; rfl) (fun cdv A outer s H vs Q E hr ⟨a, C, y, hv, ha, T, no, q⟩ => ?_)
  subst hv
  refine ⟨_, pss_cons (ps_expr (pe_veinit rfl N.n_ValueError vV (pa_cons (pv 0) (pa_cons pe_str pa_nil)))) (pss_one (ps_ost (pv 0) (pv 1))), ?_⟩
  exact ⟨.ref a, rfl, a, C, [.str _], rfl, by decide, T, ha, y, rfl, .ref a, rfl, a, C, rfl, T, no, .inl ⟨ha, fun dx h1 h2 => q dx h1 h2⟩⟩
omit [Tbl] in
set_option maxHeartbeats 0 in
theorem all_mk {P qq : Program} {w : World} {K : PySem.W.Frag} {h : Heap} {mg : Str → Option Value} {fa : Addr} (X : K.In h) (G : h.Ns mainGlobals mg) (hfa : mg "law" = some (.ref fa))
    {f_is_number : Addr} {od_is_number an_is_number : Option Addr} {sl_is_number : Array (Option Value)} {oc_is_number kV_is_number dc_is_number pm_is_number cd_is_number ct_is_number' : Value}
    {f_is_row : Addr} {od_is_row an_is_row : Option Addr} {sl_is_row : Array (Option Value)} {oc_is_row kV_is_row dc_is_row pm_is_row cd_is_row ct_is_row' : Value}
    {f_cross : Addr} {od_cross an_cross : Option Addr} {sl_cross : Array (Option Value)} {oc_cross kV_cross dc_cross pm_cross cd_cross ct_cross' : Value}
    {f_dot : Addr} {od_dot an_dot : Option Addr} {sl_dot : Array (Option Value)} {oc_dot kV_dot dc_dot pm_dot cd_dot ct_dot' : Value}
    {f_is_upper : Addr} {od_is_upper an_is_upper : Option Addr} {sl_is_upper : Array (Option Value)} {oc_is_upper kV_is_upper dc_is_upper pm_is_upper cd_is_upper ct_is_upper' : Value}
    {f_bare_and_length : Addr} {od_bare_and_length an_bare_and_length : Option Addr} {sl_bare_and_length : Array (Option Value)} {oc_bare_and_length kV_bare_and_length dc_bare_and_length pm_bare_and_length cd_bare_and_length ct_bare_and_length' : Value}
    {f__law_pool : Addr} {od__law_pool an__law_pool : Option Addr} {sl__law_pool : Array (Option Value)} {oc__law_pool kV__law_pool dc__law_pool pm__law_pool cd__law_pool ct__law_pool' : Value}
    {f__law_take : Addr} {od__law_take an__law_take : Option Addr} {sl__law_take : Array (Option Value)} {oc__law_take kV__law_take dc__law_take pm__law_take cd__law_take ct__law_take' : Value}
    {f_is_number_pair : Addr} {od_is_number_pair an_is_number_pair : Option Addr} {sl_is_number_pair : Array (Option Value)} {oc_is_number_pair kV_is_number_pair dc_is_number_pair pm_is_number_pair cd_is_number_pair ct_is_number_pair' : Value}
    {f_is_slope_ahead : Addr} {od_is_slope_ahead an_is_slope_ahead : Option Addr} {sl_is_slope_ahead : Array (Option Value)} {oc_is_slope_ahead kV_is_slope_ahead dc_is_slope_ahead pm_is_slope_ahead cd_is_slope_ahead ct_is_slope_ahead' : Value}
    {f_is_slope_alike : Addr} {od_is_slope_alike an_is_slope_alike : Option Addr} {sl_is_slope_alike : Array (Option Value)} {oc_is_slope_alike kV_is_slope_alike dc_is_slope_alike pm_is_slope_alike cd_is_slope_alike ct_is_slope_alike' : Value}
    {f_bare_of : Addr} {od_bare_of an_bare_of : Option Addr} {sl_bare_of : Array (Option Value)} {oc_bare_of kV_bare_of dc_bare_of pm_bare_of cd_bare_of ct_bare_of' : Value}
    {f__law_one : Addr} {od__law_one an__law_one : Option Addr} {sl__law_one : Array (Option Value)} {oc__law_one kV__law_one dc__law_one pm__law_one cd__law_one ct__law_one' : Value}
    {f_is_fraction : Addr} {od_is_fraction an_is_fraction : Option Addr} {sl_is_fraction : Array (Option Value)} {oc_is_fraction kV_is_fraction dc_is_fraction pm_is_fraction cd_is_fraction ct_is_fraction' : Value}
    {f_is_point : Addr} {od_is_point an_is_point : Option Addr} {sl_is_point : Array (Option Value)} {oc_is_point kV_is_point dc_is_point pm_is_point cd_is_point ct_is_point' : Value}
    {f_is_vector : Addr} {od_is_vector an_is_vector : Option Addr} {sl_is_vector : Array (Option Value)} {oc_is_vector kV_is_vector dc_is_vector pm_is_vector cd_is_vector ct_is_vector' : Value}
    {f_merged_by_slope : Addr} {od_merged_by_slope an_merged_by_slope : Option Addr} {sl_merged_by_slope : Array (Option Value)} {oc_merged_by_slope kV_merged_by_slope dc_merged_by_slope pm_merged_by_slope cd_merged_by_slope ct_merged_by_slope' : Value}
    {f__law_vector : Addr} {od__law_vector an__law_vector : Option Addr} {sl__law_vector : Array (Option Value)} {oc__law_vector kV__law_vector dc__law_vector pm__law_vector cd__law_vector ct__law_vector' : Value}
    {f_is_fine_point : Addr} {od_is_fine_point an_is_fine_point : Option Addr} {sl_is_fine_point : Array (Option Value)} {oc_is_fine_point kV_is_fine_point dc_is_fine_point pm_is_fine_point cd_is_fine_point ct_is_fine_point' : Value}
    {f_is_direction : Addr} {od_is_direction an_is_direction : Option Addr} {sl_is_direction : Array (Option Value)} {oc_is_direction kV_is_direction dc_is_direction pm_is_direction cd_is_direction ct_is_direction' : Value}
    {f_need_direction : Addr} {od_need_direction an_need_direction : Option Addr} {sl_need_direction : Array (Option Value)} {oc_need_direction kV_need_direction dc_need_direction pm_need_direction cd_need_direction ct_need_direction' : Value}
    {f__law_points_right : Addr} {od__law_points_right an__law_points_right : Option Addr} {sl__law_points_right : Array (Option Value)} {oc__law_points_right kV__law_points_right dc__law_points_right pm__law_points_right cd__law_points_right ct__law_points_right' : Value}
    {f_comes_ahead : Addr} {od_comes_ahead an_comes_ahead : Option Addr} {sl_comes_ahead : Array (Option Value)} {oc_comes_ahead kV_comes_ahead dc_comes_ahead pm_comes_ahead cd_comes_ahead ct_comes_ahead' : Value}
    {f_same_slope : Addr} {od_same_slope an_same_slope : Option Addr} {sl_same_slope : Array (Option Value)} {oc_same_slope kV_same_slope dc_same_slope pm_same_slope cd_same_slope ct_same_slope' : Value}
    {f_bare_vector : Addr} {od_bare_vector an_bare_vector : Option Addr} {sl_bare_vector : Array (Option Value)} {oc_bare_vector kV_bare_vector dc_bare_vector pm_bare_vector cd_bare_vector ct_bare_vector' : Value}
    {f_sorted_by_slope : Addr} {od_sorted_by_slope an_sorted_by_slope : Option Addr} {sl_sorted_by_slope : Array (Option Value)} {oc_sorted_by_slope kV_sorted_by_slope dc_sorted_by_slope pm_sorted_by_slope cd_sorted_by_slope ct_sorted_by_slope' : Value}
    {f_in_slopes : Addr} {od_in_slopes an_in_slopes : Option Addr} {sl_in_slopes : Array (Option Value)} {oc_in_slopes kV_in_slopes dc_in_slopes pm_in_slopes cd_in_slopes ct_in_slopes' : Value}
    {f__law_called : Addr} {od__law_called an__law_called : Option Addr} {sl__law_called : Array (Option Value)} {oc__law_called kV__law_called dc__law_called pm__law_called cd__law_called ct__law_called' : Value}
    {f__law_told : Addr} {od__law_told an__law_told : Option Addr} {sl__law_told : Array (Option Value)} {oc__law_told kV__law_told dc__law_told pm__law_told cd__law_told ct__law_told' : Value}
    {f_law : Addr} {od_law an_law : Option Addr} {sl_law : Array (Option Value)} {oc_law kV_law dc_law pm_law cd_law ct_law' : Value}
    {C_ShapeError : Addr}
    {C_NoVector : Addr}
    {nm_NoVector q_NoVector : Str} {N_NoVector : Addr} {bs_NoVector bm_NoVector : List Value} {sn_NoVector : List Str} {sub_NoVector : List Value} {ab_NoVector : Bool} {col_NoVector : Option Bool} {dd_NoVector : Option Addr} {m0_NoVector m1_NoVector m2_NoVector m3_NoVector m5_NoVector : Option Value}
    {f_IShapeError : Addr} {od_IShapeError an_IShapeError : Option Addr} {sl_IShapeError : Array (Option Value)} {oc_IShapeError kV_IShapeError dc_IShapeError pm_IShapeError cd_IShapeError ct_IShapeError' : Value}
    (g_NoVector : PySem.W.nsIn K mainGlobals "NoVector" = some (some (.ref C_NoVector)))
    (g_ShapeError : PySem.W.nsIn K mainGlobals "ShapeError" = some (some (.ref C_ShapeError)))
    (z_abs : PySem.W.nsIn K mainGlobals "abs" = some none)
    (z_bool : PySem.W.nsIn K mainGlobals "bool" = some none)
    (z_dict : PySem.W.nsIn K mainGlobals "dict" = some none)
    (z_int : PySem.W.nsIn K mainGlobals "int" = some none)
    (z_isinstance : PySem.W.nsIn K mainGlobals "isinstance" = some none)
    (z_len : PySem.W.nsIn K mainGlobals "len" = some none)
    (z_list : PySem.W.nsIn K mainGlobals "list" = some none)
    (z_max : PySem.W.nsIn K mainGlobals "max" = some none)
    (z_range : PySem.W.nsIn K mainGlobals "range" = some none)
    (z_tuple : PySem.W.nsIn K mainGlobals "tuple" = some none)
    (z_ValueError : PySem.W.nsIn K mainGlobals "ValueError" = some none)
    (zc_POINT_MOST : ∃ uv, mg "POINT_MOST" = some uv ∧ RelV (.int c_POINT_MOST) uv)
    (zc_VECTORS_MOST : ∃ uv, mg "VECTORS_MOST" = some uv ∧ RelV (.int c_VECTORS_MOST) uv)
    (zc_VECTOR_MOST : ∃ uv, mg "VECTOR_MOST" = some uv ∧ RelV (.int c_VECTOR_MOST) uv)
    (z_gcd : PySem.W.nsIn K mainGlobals "gcd" = some (some (.builtin "math.gcd")))
    (a_is_number : PySem.W.nsIn K mainGlobals "is_number" = some (some (.ref f_is_number)))
    (l_is_number : K.lookup f_is_number = some ⟨oc_is_number, od_is_number, .func (PySem.W.fnOf "is_number" "is_number" (defArgs s_is_number) (defBody s_is_number) (defScope s_is_number) .none kV_is_number dc_is_number pm_is_number an_is_number cd_is_number ct_is_number'), sl_is_number⟩)
    (c_is_number : PySem.W.codeIn K cd_is_number "is_number" = true)
    (k_is_number : PySem.W.keepIn K (.ref f_is_number) = true)
    (a_is_row : PySem.W.nsIn K mainGlobals "is_row" = some (some (.ref f_is_row)))
    (l_is_row : K.lookup f_is_row = some ⟨oc_is_row, od_is_row, .func (PySem.W.fnOf "is_row" "is_row" (defArgs s_is_row) (defBody s_is_row) (defScope s_is_row) .none kV_is_row dc_is_row pm_is_row an_is_row cd_is_row ct_is_row'), sl_is_row⟩)
    (c_is_row : PySem.W.codeIn K cd_is_row "is_row" = true)
    (k_is_row : PySem.W.keepIn K (.ref f_is_row) = true)
    (a_cross : PySem.W.nsIn K mainGlobals "cross" = some (some (.ref f_cross)))
    (l_cross : K.lookup f_cross = some ⟨oc_cross, od_cross, .func (PySem.W.fnOf "cross" "cross" (defArgs s_cross) (defBody s_cross) (defScope s_cross) .none kV_cross dc_cross pm_cross an_cross cd_cross ct_cross'), sl_cross⟩)
    (c_cross : PySem.W.codeIn K cd_cross "cross" = true)
    (k_cross : PySem.W.keepIn K (.ref f_cross) = true)
    (a_dot : PySem.W.nsIn K mainGlobals "dot" = some (some (.ref f_dot)))
    (l_dot : K.lookup f_dot = some ⟨oc_dot, od_dot, .func (PySem.W.fnOf "dot" "dot" (defArgs s_dot) (defBody s_dot) (defScope s_dot) .none kV_dot dc_dot pm_dot an_dot cd_dot ct_dot'), sl_dot⟩)
    (c_dot : PySem.W.codeIn K cd_dot "dot" = true)
    (k_dot : PySem.W.keepIn K (.ref f_dot) = true)
    (a_is_upper : PySem.W.nsIn K mainGlobals "is_upper" = some (some (.ref f_is_upper)))
    (l_is_upper : K.lookup f_is_upper = some ⟨oc_is_upper, od_is_upper, .func (PySem.W.fnOf "is_upper" "is_upper" (defArgs s_is_upper) (defBody s_is_upper) (defScope s_is_upper) .none kV_is_upper dc_is_upper pm_is_upper an_is_upper cd_is_upper ct_is_upper'), sl_is_upper⟩)
    (c_is_upper : PySem.W.codeIn K cd_is_upper "is_upper" = true)
    (k_is_upper : PySem.W.keepIn K (.ref f_is_upper) = true)
    (a_bare_and_length : PySem.W.nsIn K mainGlobals "bare_and_length" = some (some (.ref f_bare_and_length)))
    (l_bare_and_length : K.lookup f_bare_and_length = some ⟨oc_bare_and_length, od_bare_and_length, .func (PySem.W.fnOf "bare_and_length" "bare_and_length" (defArgs s_bare_and_length) (defBody s_bare_and_length) (defScope s_bare_and_length) .none kV_bare_and_length dc_bare_and_length pm_bare_and_length an_bare_and_length cd_bare_and_length ct_bare_and_length'), sl_bare_and_length⟩)
    (c_bare_and_length : PySem.W.codeIn K cd_bare_and_length "bare_and_length" = true)
    (k_bare_and_length : PySem.W.keepIn K (.ref f_bare_and_length) = true)
    (a__law_pool : PySem.W.nsIn K mainGlobals "_law_pool" = some (some (.ref f__law_pool)))
    (l__law_pool : K.lookup f__law_pool = some ⟨oc__law_pool, od__law_pool, .func (PySem.W.fnOf "_law_pool" "_law_pool" (defArgs s__law_pool) (defBody s__law_pool) (defScope s__law_pool) .none kV__law_pool dc__law_pool pm__law_pool an__law_pool cd__law_pool ct__law_pool'), sl__law_pool⟩)
    (c__law_pool : PySem.W.codeIn K cd__law_pool "_law_pool" = true)
    (k__law_pool : PySem.W.keepIn K (.ref f__law_pool) = true)
    (a__law_take : PySem.W.nsIn K mainGlobals "_law_take" = some (some (.ref f__law_take)))
    (l__law_take : K.lookup f__law_take = some ⟨oc__law_take, od__law_take, .func (PySem.W.fnOf "_law_take" "_law_take" (defArgs s__law_take) (defBody s__law_take) (defScope s__law_take) .none kV__law_take dc__law_take pm__law_take an__law_take cd__law_take ct__law_take'), sl__law_take⟩)
    (c__law_take : PySem.W.codeIn K cd__law_take "_law_take" = true)
    (k__law_take : PySem.W.keepIn K (.ref f__law_take) = true)
    (a_is_number_pair : PySem.W.nsIn K mainGlobals "is_number_pair" = some (some (.ref f_is_number_pair)))
    (l_is_number_pair : K.lookup f_is_number_pair = some ⟨oc_is_number_pair, od_is_number_pair, .func (PySem.W.fnOf "is_number_pair" "is_number_pair" (defArgs s_is_number_pair) (defBody s_is_number_pair) (defScope s_is_number_pair) .none kV_is_number_pair dc_is_number_pair pm_is_number_pair an_is_number_pair cd_is_number_pair ct_is_number_pair'), sl_is_number_pair⟩)
    (c_is_number_pair : PySem.W.codeIn K cd_is_number_pair "is_number_pair" = true)
    (k_is_number_pair : PySem.W.keepIn K (.ref f_is_number_pair) = true)
    (a_is_slope_ahead : PySem.W.nsIn K mainGlobals "is_slope_ahead" = some (some (.ref f_is_slope_ahead)))
    (l_is_slope_ahead : K.lookup f_is_slope_ahead = some ⟨oc_is_slope_ahead, od_is_slope_ahead, .func (PySem.W.fnOf "is_slope_ahead" "is_slope_ahead" (defArgs s_is_slope_ahead) (defBody s_is_slope_ahead) (defScope s_is_slope_ahead) .none kV_is_slope_ahead dc_is_slope_ahead pm_is_slope_ahead an_is_slope_ahead cd_is_slope_ahead ct_is_slope_ahead'), sl_is_slope_ahead⟩)
    (c_is_slope_ahead : PySem.W.codeIn K cd_is_slope_ahead "is_slope_ahead" = true)
    (k_is_slope_ahead : PySem.W.keepIn K (.ref f_is_slope_ahead) = true)
    (a_is_slope_alike : PySem.W.nsIn K mainGlobals "is_slope_alike" = some (some (.ref f_is_slope_alike)))
    (l_is_slope_alike : K.lookup f_is_slope_alike = some ⟨oc_is_slope_alike, od_is_slope_alike, .func (PySem.W.fnOf "is_slope_alike" "is_slope_alike" (defArgs s_is_slope_alike) (defBody s_is_slope_alike) (defScope s_is_slope_alike) .none kV_is_slope_alike dc_is_slope_alike pm_is_slope_alike an_is_slope_alike cd_is_slope_alike ct_is_slope_alike'), sl_is_slope_alike⟩)
    (c_is_slope_alike : PySem.W.codeIn K cd_is_slope_alike "is_slope_alike" = true)
    (k_is_slope_alike : PySem.W.keepIn K (.ref f_is_slope_alike) = true)
    (a_bare_of : PySem.W.nsIn K mainGlobals "bare_of" = some (some (.ref f_bare_of)))
    (l_bare_of : K.lookup f_bare_of = some ⟨oc_bare_of, od_bare_of, .func (PySem.W.fnOf "bare_of" "bare_of" (defArgs s_bare_of) (defBody s_bare_of) (defScope s_bare_of) .none kV_bare_of dc_bare_of pm_bare_of an_bare_of cd_bare_of ct_bare_of'), sl_bare_of⟩)
    (c_bare_of : PySem.W.codeIn K cd_bare_of "bare_of" = true)
    (k_bare_of : PySem.W.keepIn K (.ref f_bare_of) = true)
    (a__law_one : PySem.W.nsIn K mainGlobals "_law_one" = some (some (.ref f__law_one)))
    (l__law_one : K.lookup f__law_one = some ⟨oc__law_one, od__law_one, .func (PySem.W.fnOf "_law_one" "_law_one" (defArgs s__law_one) (defBody s__law_one) (defScope s__law_one) .none kV__law_one dc__law_one pm__law_one an__law_one cd__law_one ct__law_one'), sl__law_one⟩)
    (c__law_one : PySem.W.codeIn K cd__law_one "_law_one" = true)
    (k__law_one : PySem.W.keepIn K (.ref f__law_one) = true)
    (a_is_fraction : PySem.W.nsIn K mainGlobals "is_fraction" = some (some (.ref f_is_fraction)))
    (l_is_fraction : K.lookup f_is_fraction = some ⟨oc_is_fraction, od_is_fraction, .func (PySem.W.fnOf "is_fraction" "is_fraction" (defArgs s_is_fraction) (defBody s_is_fraction) (defScope s_is_fraction) .none kV_is_fraction dc_is_fraction pm_is_fraction an_is_fraction cd_is_fraction ct_is_fraction'), sl_is_fraction⟩)
    (c_is_fraction : PySem.W.codeIn K cd_is_fraction "is_fraction" = true)
    (k_is_fraction : PySem.W.keepIn K (.ref f_is_fraction) = true)
    (a_is_point : PySem.W.nsIn K mainGlobals "is_point" = some (some (.ref f_is_point)))
    (l_is_point : K.lookup f_is_point = some ⟨oc_is_point, od_is_point, .func (PySem.W.fnOf "is_point" "is_point" (defArgs s_is_point) (defBody s_is_point) (defScope s_is_point) .none kV_is_point dc_is_point pm_is_point an_is_point cd_is_point ct_is_point'), sl_is_point⟩)
    (c_is_point : PySem.W.codeIn K cd_is_point "is_point" = true)
    (k_is_point : PySem.W.keepIn K (.ref f_is_point) = true)
    (a_is_vector : PySem.W.nsIn K mainGlobals "is_vector" = some (some (.ref f_is_vector)))
    (l_is_vector : K.lookup f_is_vector = some ⟨oc_is_vector, od_is_vector, .func (PySem.W.fnOf "is_vector" "is_vector" (defArgs s_is_vector) (defBody s_is_vector) (defScope s_is_vector) .none kV_is_vector dc_is_vector pm_is_vector an_is_vector cd_is_vector ct_is_vector'), sl_is_vector⟩)
    (c_is_vector : PySem.W.codeIn K cd_is_vector "is_vector" = true)
    (k_is_vector : PySem.W.keepIn K (.ref f_is_vector) = true)
    (a_merged_by_slope : PySem.W.nsIn K mainGlobals "merged_by_slope" = some (some (.ref f_merged_by_slope)))
    (l_merged_by_slope : K.lookup f_merged_by_slope = some ⟨oc_merged_by_slope, od_merged_by_slope, .func (PySem.W.fnOf "merged_by_slope" "merged_by_slope" (defArgs s_merged_by_slope) (defBody s_merged_by_slope) (defScope s_merged_by_slope) .none kV_merged_by_slope dc_merged_by_slope pm_merged_by_slope an_merged_by_slope cd_merged_by_slope ct_merged_by_slope'), sl_merged_by_slope⟩)
    (c_merged_by_slope : PySem.W.codeIn K cd_merged_by_slope "merged_by_slope" = true)
    (k_merged_by_slope : PySem.W.keepIn K (.ref f_merged_by_slope) = true)
    (a__law_vector : PySem.W.nsIn K mainGlobals "_law_vector" = some (some (.ref f__law_vector)))
    (l__law_vector : K.lookup f__law_vector = some ⟨oc__law_vector, od__law_vector, .func (PySem.W.fnOf "_law_vector" "_law_vector" (defArgs s__law_vector) (defBody s__law_vector) (defScope s__law_vector) .none kV__law_vector dc__law_vector pm__law_vector an__law_vector cd__law_vector ct__law_vector'), sl__law_vector⟩)
    (c__law_vector : PySem.W.codeIn K cd__law_vector "_law_vector" = true)
    (k__law_vector : PySem.W.keepIn K (.ref f__law_vector) = true)
    (a_is_fine_point : PySem.W.nsIn K mainGlobals "is_fine_point" = some (some (.ref f_is_fine_point)))
    (l_is_fine_point : K.lookup f_is_fine_point = some ⟨oc_is_fine_point, od_is_fine_point, .func (PySem.W.fnOf "is_fine_point" "is_fine_point" (defArgs s_is_fine_point) (defBody s_is_fine_point) (defScope s_is_fine_point) .none kV_is_fine_point dc_is_fine_point pm_is_fine_point an_is_fine_point cd_is_fine_point ct_is_fine_point'), sl_is_fine_point⟩)
    (c_is_fine_point : PySem.W.codeIn K cd_is_fine_point "is_fine_point" = true)
    (k_is_fine_point : PySem.W.keepIn K (.ref f_is_fine_point) = true)
    (a_is_direction : PySem.W.nsIn K mainGlobals "is_direction" = some (some (.ref f_is_direction)))
    (l_is_direction : K.lookup f_is_direction = some ⟨oc_is_direction, od_is_direction, .func (PySem.W.fnOf "is_direction" "is_direction" (defArgs s_is_direction) (defBody s_is_direction) (defScope s_is_direction) .none kV_is_direction dc_is_direction pm_is_direction an_is_direction cd_is_direction ct_is_direction'), sl_is_direction⟩)
    (c_is_direction : PySem.W.codeIn K cd_is_direction "is_direction" = true)
    (k_is_direction : PySem.W.keepIn K (.ref f_is_direction) = true)
    (a_need_direction : PySem.W.nsIn K mainGlobals "need_direction" = some (some (.ref f_need_direction)))
    (l_need_direction : K.lookup f_need_direction = some ⟨oc_need_direction, od_need_direction, .func (PySem.W.fnOf "need_direction" "need_direction" (defArgs s_need_direction) (defBody s_need_direction) (defScope s_need_direction) .none kV_need_direction dc_need_direction pm_need_direction an_need_direction cd_need_direction ct_need_direction'), sl_need_direction⟩)
    (c_need_direction : PySem.W.codeIn K cd_need_direction "need_direction" = true)
    (k_need_direction : PySem.W.keepIn K (.ref f_need_direction) = true)
    (a__law_points_right : PySem.W.nsIn K mainGlobals "_law_points_right" = some (some (.ref f__law_points_right)))
    (l__law_points_right : K.lookup f__law_points_right = some ⟨oc__law_points_right, od__law_points_right, .func (PySem.W.fnOf "_law_points_right" "_law_points_right" (defArgs s__law_points_right) (defBody s__law_points_right) (defScope s__law_points_right) .none kV__law_points_right dc__law_points_right pm__law_points_right an__law_points_right cd__law_points_right ct__law_points_right'), sl__law_points_right⟩)
    (c__law_points_right : PySem.W.codeIn K cd__law_points_right "_law_points_right" = true)
    (k__law_points_right : PySem.W.keepIn K (.ref f__law_points_right) = true)
    (a_comes_ahead : PySem.W.nsIn K mainGlobals "comes_ahead" = some (some (.ref f_comes_ahead)))
    (l_comes_ahead : K.lookup f_comes_ahead = some ⟨oc_comes_ahead, od_comes_ahead, .func (PySem.W.fnOf "comes_ahead" "comes_ahead" (defArgs s_comes_ahead) (defBody s_comes_ahead) (defScope s_comes_ahead) .none kV_comes_ahead dc_comes_ahead pm_comes_ahead an_comes_ahead cd_comes_ahead ct_comes_ahead'), sl_comes_ahead⟩)
    (c_comes_ahead : PySem.W.codeIn K cd_comes_ahead "comes_ahead" = true)
    (k_comes_ahead : PySem.W.keepIn K (.ref f_comes_ahead) = true)
    (a_same_slope : PySem.W.nsIn K mainGlobals "same_slope" = some (some (.ref f_same_slope)))
    (l_same_slope : K.lookup f_same_slope = some ⟨oc_same_slope, od_same_slope, .func (PySem.W.fnOf "same_slope" "same_slope" (defArgs s_same_slope) (defBody s_same_slope) (defScope s_same_slope) .none kV_same_slope dc_same_slope pm_same_slope an_same_slope cd_same_slope ct_same_slope'), sl_same_slope⟩)
    (c_same_slope : PySem.W.codeIn K cd_same_slope "same_slope" = true)
    (k_same_slope : PySem.W.keepIn K (.ref f_same_slope) = true)
    (a_bare_vector : PySem.W.nsIn K mainGlobals "bare_vector" = some (some (.ref f_bare_vector)))
    (l_bare_vector : K.lookup f_bare_vector = some ⟨oc_bare_vector, od_bare_vector, .func (PySem.W.fnOf "bare_vector" "bare_vector" (defArgs s_bare_vector) (defBody s_bare_vector) (defScope s_bare_vector) .none kV_bare_vector dc_bare_vector pm_bare_vector an_bare_vector cd_bare_vector ct_bare_vector'), sl_bare_vector⟩)
    (c_bare_vector : PySem.W.codeIn K cd_bare_vector "bare_vector" = true)
    (k_bare_vector : PySem.W.keepIn K (.ref f_bare_vector) = true)
    (a_sorted_by_slope : PySem.W.nsIn K mainGlobals "sorted_by_slope" = some (some (.ref f_sorted_by_slope)))
    (l_sorted_by_slope : K.lookup f_sorted_by_slope = some ⟨oc_sorted_by_slope, od_sorted_by_slope, .func (PySem.W.fnOf "sorted_by_slope" "sorted_by_slope" (defArgs s_sorted_by_slope) (defBody s_sorted_by_slope) (defScope s_sorted_by_slope) .none kV_sorted_by_slope dc_sorted_by_slope pm_sorted_by_slope an_sorted_by_slope cd_sorted_by_slope ct_sorted_by_slope'), sl_sorted_by_slope⟩)
    (c_sorted_by_slope : PySem.W.codeIn K cd_sorted_by_slope "sorted_by_slope" = true)
    (k_sorted_by_slope : PySem.W.keepIn K (.ref f_sorted_by_slope) = true)
    (a_in_slopes : PySem.W.nsIn K mainGlobals "in_slopes" = some (some (.ref f_in_slopes)))
    (l_in_slopes : K.lookup f_in_slopes = some ⟨oc_in_slopes, od_in_slopes, .func (PySem.W.fnOf "in_slopes" "in_slopes" (defArgs s_in_slopes) (defBody s_in_slopes) (defScope s_in_slopes) .none kV_in_slopes dc_in_slopes pm_in_slopes an_in_slopes cd_in_slopes ct_in_slopes'), sl_in_slopes⟩)
    (c_in_slopes : PySem.W.codeIn K cd_in_slopes "in_slopes" = true)
    (k_in_slopes : PySem.W.keepIn K (.ref f_in_slopes) = true)
    (a__law_called : PySem.W.nsIn K mainGlobals "_law_called" = some (some (.ref f__law_called)))
    (l__law_called : K.lookup f__law_called = some ⟨oc__law_called, od__law_called, .func (PySem.W.fnOf "_law_called" "_law_called" (defArgs s__law_called) (defBody s__law_called) (defScope s__law_called) .none kV__law_called dc__law_called pm__law_called an__law_called cd__law_called ct__law_called'), sl__law_called⟩)
    (c__law_called : PySem.W.codeIn K cd__law_called "_law_called" = true)
    (k__law_called : PySem.W.keepIn K (.ref f__law_called) = true)
    (a__law_told : PySem.W.nsIn K mainGlobals "_law_told" = some (some (.ref f__law_told)))
    (l__law_told : K.lookup f__law_told = some ⟨oc__law_told, od__law_told, .func (PySem.W.fnOf "_law_told" "_law_told" (defArgs s__law_told) (defBody s__law_told) (defScope s__law_told) .none kV__law_told dc__law_told pm__law_told an__law_told cd__law_told ct__law_told'), sl__law_told⟩)
    (c__law_told : PySem.W.codeIn K cd__law_told "_law_told" = true)
    (k__law_told : PySem.W.keepIn K (.ref f__law_told) = true)
    (a_law : PySem.W.nsIn K mainGlobals "law" = some (some (.ref f_law)))
    (l_law : K.lookup f_law = some ⟨oc_law, od_law, .func (PySem.W.fnOf "law" "law" (defArgs s_law) (defBody s_law) (defScope s_law) .none kV_law dc_law pm_law an_law cd_law ct_law'), sl_law⟩)
    (c_law : PySem.W.codeIn K cd_law "law" = true)
    (k_law : PySem.W.keepIn K (.ref f_law) = true)
    (x_NoVector : K.lookup C_NoVector = some (excClassObj nm_NoVector q_NoVector C_NoVector N_NoVector bs_NoVector bm_NoVector true sn_NoVector sub_NoVector ab_NoVector col_NoVector dd_NoVector m0_NoVector m1_NoVector m2_NoVector m3_NoVector m5_NoVector "ValueError.__new__"))
    (r_NoVector : PySem.HandSPX.refsVE bm_NoVector = true)
    (sa_NoVector : PySem.W.findIn K (.ref C_NoVector) "__setattr__" = some (some (.builtin "object.__setattr__")))
    (ga_NoVector : PySem.W.findIn K (.ref C_NoVector) "__getattribute__" = some (some (.builtin "BaseException.__getattribute__")))
    (gg_NoVector : PySem.W.findIn K (.ref C_NoVector) "__getattr__" = some none)
    (nb_NoVector : PySem.W.findIn K (.ref C_NoVector) "told" = some none)
    (i_NoVector : PySem.W.findIn K (.ref C_NoVector) "__init__" = some (some (.ref f_IShapeError)))
    (kC_NoVector : PySem.W.keepIn K (.ref C_NoVector) = true)
    (eC_NoVector : PySem.W.subIn K (.ref C_NoVector) (.type "BaseException") = some true)
    (tC_NoVector : PySem.W.typeIn K (.ref C_NoVector) = some (.type "type"))
    (hC_NoVector : PySem.W.hasDictIn K C_NoVector = true)
    (l_IShapeError : K.lookup f_IShapeError = some ⟨oc_IShapeError, od_IShapeError, .func (PySem.W.fnOf "__init__" "ShapeError.__init__" (defArgs si_ShapeError) (defBody si_ShapeError) (defScope si_ShapeError) .none kV_IShapeError dc_IShapeError pm_IShapeError an_IShapeError cd_IShapeError ct_IShapeError'), sl_IShapeError⟩)
    (c_IShapeError : PySem.W.codeIn K cd_IShapeError "ShapeError.__init__" = true)
    (k_IShapeError : PySem.W.keepIn K (.ref f_IShapeError) = true)
    (t_IShapeError : PySem.W.typeIn K (.ref f_IShapeError) = some (.type "function"))
    (vV : PySem.W.findCls K (.type "ValueError") (.type "type") "__init__" = some (.val (.builtin "ValueError.__init__")))
    (s_ShapeError_NoVector : PySem.W.subIn K (.ref C_ShapeError) (.ref C_NoVector) = some false)
    (s_NoVector_NoVector : PySem.W.subIn K (.ref C_NoVector) (.ref C_NoVector) = some true)
    (j_NoVector_ShapeError : PySem.W.isIn K (.ref C_NoVector) C_ShapeError = true)
    (hF : ∀ ns : List Int, ns.length ≤ 63 → ∃ as', F_law [.sc ns] = .val (.bool true) as') :
    ∃ (ms : List Mk) (fd : FuncData), (∀ m ∈ ms, PySem.W.tabIn K m.x = some (m.c, m.P) ∧ K.lookup m.P = none ∧ (PyProof.Rows.recsOf qq).find? (fun e => e.name == m.x) = some m.d) ∧ (∀ (s : Shared) (v : Value), BindsTo s fd ⟨[v], []⟩ [("_law_script", v)]) ∧ ∀ base : Heap, K.In base → base.Ns mainGlobals mg → (∀ m ∈ ms, LamX.TabB base mg m.c m.P) → FnG P w K mg base (L2.CX P w) 20 fa fd ["_law_script"] (@spLaw (tblOf ms) K) := by
  have e := hfa.symm.trans (PySem.W.mg_of X G a_law)
  cases e
  have N : Nm mg := { n_abs := PySem.W.mg_none_of X G z_abs, n_bool := PySem.W.mg_none_of X G z_bool, n_dict := PySem.W.mg_none_of X G z_dict, n_int := PySem.W.mg_none_of X G z_int, n_isinstance := PySem.W.mg_none_of X G z_isinstance, n_len := PySem.W.mg_none_of X G z_len, n_list := PySem.W.mg_none_of X G z_list, n_max := PySem.W.mg_none_of X G z_max, n_range := PySem.W.mg_none_of X G z_range, n_tuple := PySem.W.mg_none_of X G z_tuple, n_ValueError := PySem.W.mg_none_of X G z_ValueError, n_gcd := PySem.W.mg_of X G z_gcd, m_POINT_MOST := zc_POINT_MOST, m_VECTORS_MOST := zc_VECTORS_MOST, m_VECTOR_MOST := zc_VECTOR_MOST }
  have D_is_number := fun_mk (st := s_is_number) l_is_number c_is_number k_is_number
  have D_is_row := fun_mk (st := s_is_row) l_is_row c_is_row k_is_row
  have D_cross := fun_mk (st := s_cross) l_cross c_cross k_cross
  have D_dot := fun_mk (st := s_dot) l_dot c_dot k_dot
  have D_is_upper := fun_mk (st := s_is_upper) l_is_upper c_is_upper k_is_upper
  have D_bare_and_length := fun_mk (st := s_bare_and_length) l_bare_and_length c_bare_and_length k_bare_and_length
  have D__law_pool := fun_mk (st := s__law_pool) l__law_pool c__law_pool k__law_pool
  have D__law_take := fun_mk (st := s__law_take) l__law_take c__law_take k__law_take
  have D_is_number_pair := fun_mk (st := s_is_number_pair) l_is_number_pair c_is_number_pair k_is_number_pair
  have D_is_slope_ahead := fun_mk (st := s_is_slope_ahead) l_is_slope_ahead c_is_slope_ahead k_is_slope_ahead
  have D_is_slope_alike := fun_mk (st := s_is_slope_alike) l_is_slope_alike c_is_slope_alike k_is_slope_alike
  have D_bare_of := fun_mk (st := s_bare_of) l_bare_of c_bare_of k_bare_of
  have D__law_one := fun_mk (st := s__law_one) l__law_one c__law_one k__law_one
  have D_is_fraction := fun_mk (st := s_is_fraction) l_is_fraction c_is_fraction k_is_fraction
  have D_is_point := fun_mk (st := s_is_point) l_is_point c_is_point k_is_point
  have D_is_vector := fun_mk (st := s_is_vector) l_is_vector c_is_vector k_is_vector
  have D_merged_by_slope := fun_mk (st := s_merged_by_slope) l_merged_by_slope c_merged_by_slope k_merged_by_slope
  have D__law_vector := fun_mk (st := s__law_vector) l__law_vector c__law_vector k__law_vector
  have D_is_fine_point := fun_mk (st := s_is_fine_point) l_is_fine_point c_is_fine_point k_is_fine_point
  have D_is_direction := fun_mk (st := s_is_direction) l_is_direction c_is_direction k_is_direction
  have D_need_direction := fun_mk (st := s_need_direction) l_need_direction c_need_direction k_need_direction
  have D__law_points_right := fun_mk (st := s__law_points_right) l__law_points_right c__law_points_right k__law_points_right
  have D_comes_ahead := fun_mk (st := s_comes_ahead) l_comes_ahead c_comes_ahead k_comes_ahead
  have D_same_slope := fun_mk (st := s_same_slope) l_same_slope c_same_slope k_same_slope
  have D_bare_vector := fun_mk (st := s_bare_vector) l_bare_vector c_bare_vector k_bare_vector
  have D_sorted_by_slope := fun_mk (st := s_sorted_by_slope) l_sorted_by_slope c_sorted_by_slope k_sorted_by_slope
  have D_in_slopes := fun_mk (st := s_in_slopes) l_in_slopes c_in_slopes k_in_slopes
  have D__law_called := fun_mk (st := s__law_called) l__law_called c__law_called k__law_called
  have D__law_told := fun_mk (st := s__law_told) l__law_told c__law_told k__law_told
  have D_law := fun_mk (st := s_law) l_law c_law k_law
  have D_IShapeError := fun_mk (x := "__init__") (qual := "ShapeError.__init__") (st := si_ShapeError) l_IShapeError c_IShapeError k_IShapeError
  refine ⟨[], PySem.W.fnOf "law" "law" (defArgs s_law) (defBody s_law) (defScope s_law) .none kV_law dc_law pm_law an_law cd_law ct_law', fun m hm => ?_, fun s v => .of_eq rfl, fun base _ _ hTB => ?_⟩
  · cases hm
  letI : Tbl := tblOf []
  have h_g_NoVector := PySem.W.mg_of X G g_NoVector
  have h_e_NoVector : Ecl P w K mg base "NoVector" "told" := ⟨C_NoVector, { gC := h_g_NoVector, xf := ⟨ga_NoVector, gg_NoVector, eC_NoVector, hC_NoVector⟩, no := nb_NoVector, made := .inl ⟨⟨⟨nm_NoVector, q_NoVector, N_NoVector, bs_NoVector, bm_NoVector, sn_NoVector, sub_NoVector, ab_NoVector, col_NoVector, dd_NoVector, m0_NoVector, m1_NoVector, m2_NoVector, m3_NoVector, m5_NoVector, x_NoVector, r_NoVector⟩, sa_NoVector, eC_NoVector, tC_NoVector, kC_NoVector⟩, f_IShapeError, _, _, i_NoVector, t_IShapeError, oki_ShapeError N D_IShapeError vV, D_IShapeError.binds (ps := ["self", "told"]) fun _ _ _ _ _ _ us hl => match us, hl with | [_, _], _ => rfl⟩ }⟩
  have h_g_ShapeError := PySem.W.mg_of X G g_ShapeError
  have h_m_NoVector : ∀ c b D, ct_NoVector c = some b → mg c = some (.ref D) → PySem.W.exmOne K (.ref D) (.ref C_NoVector) = some b := by
    intro c b D h1 h2
    unfold ct_NoVector at h1
    split at h1
    · rename_i hc
      subst hc; cases h1; cases (PySem.W.mg_of X G g_ShapeError).symm.trans h2; exact PySem.W.exm_ref eC_NoVector hC_NoVector tC_NoVector s_ShapeError_NoVector
    split at h1
    · rename_i hc
      subst hc; cases h1; cases (PySem.W.mg_of X G g_NoVector).symm.trans h2; exact PySem.W.exm_ref eC_NoVector hC_NoVector tC_NoVector s_NoVector_NoVector
    cases h1
  have h_k_NoVector : ∀ c, kn_NoVector c = true → Ecl P w K mg base c "told" := by
    intro c h1
    simp only [kn_NoVector, Bool.or_eq_true, decide_eq_true_eq] at h1
    subst h1
    · exact h_e_NoVector
  have h_i_NoVector_ShapeError : ∀ c D, kn_NoVector c = true → mg c = some (.ref D) → PySem.W.isIn K (.ref D) C_ShapeError = true := by
    intro c D h1 h2
    simp only [kn_NoVector, Bool.or_eq_true, decide_eq_true_eq] at h1
    subst h1
    · cases (PySem.W.mg_of X G g_NoVector).symm.trans h2; exact j_NoVector_ShapeError
  have o_is_number := ok_is_number (P := P) (w := w) (base := base) N (funC D_is_number)
  have h_c_is_number : Cal P w K mg base 1 "is_number" 1 F_is_number := ⟨f_is_number, _, _, o_is_number, PySem.W.mg_of X G a_is_number, k_is_number, D_is_number.binds (ps := ["value"]) fun _ _ _ _ _ _ us hl => match us, hl with | [_], _ => rfl⟩
  have o_is_row := ok_is_row (P := P) (w := w) (base := base) N (funC D_is_row)
  have h_c_is_row : Cal P w K mg base 1 "is_row" 3 F_is_row := ⟨f_is_row, _, _, o_is_row, PySem.W.mg_of X G a_is_row, k_is_row, D_is_row.binds (ps := ["value", "least", "most"]) fun _ _ _ _ _ _ us hl => match us, hl with | [_, _, _], _ => rfl⟩
  have o_cross := ok_cross (P := P) (w := w) (base := base) N (funC D_cross)
  have h_c_cross : Cal P w K mg base 1 "cross" 2 F_cross := ⟨f_cross, _, _, o_cross, PySem.W.mg_of X G a_cross, k_cross, D_cross.binds (ps := ["one", "other"]) fun _ _ _ _ _ _ us hl => match us, hl with | [_, _], _ => rfl⟩
  have o_dot := ok_dot (P := P) (w := w) (base := base) N (funC D_dot)
  have h_c_dot : Cal P w K mg base 1 "dot" 2 F_dot := ⟨f_dot, _, _, o_dot, PySem.W.mg_of X G a_dot, k_dot, D_dot.binds (ps := ["one", "other"]) fun _ _ _ _ _ _ us hl => match us, hl with | [_, _], _ => rfl⟩
  have o_is_upper := ok_is_upper (P := P) (w := w) (base := base) N (funC D_is_upper)
  have h_c_is_upper : Cal P w K mg base 1 "is_upper" 1 F_is_upper := ⟨f_is_upper, _, _, o_is_upper, PySem.W.mg_of X G a_is_upper, k_is_upper, D_is_upper.binds (ps := ["vector"]) fun _ _ _ _ _ _ us hl => match us, hl with | [_], _ => rfl⟩
  have o_bare_and_length := ok_bare_and_length (P := P) (w := w) (base := base) N (funC D_bare_and_length)
  have h_c_bare_and_length : Cal P w K mg base 1 "bare_and_length" 1 F_bare_and_length := ⟨f_bare_and_length, _, _, o_bare_and_length, PySem.W.mg_of X G a_bare_and_length, k_bare_and_length, D_bare_and_length.binds (ps := ["vector"]) fun _ _ _ _ _ _ us hl => match us, hl with | [_], _ => rfl⟩
  have o__law_pool := ok__law_pool (P := P) (w := w) (base := base) N (funC D__law_pool)
  have h_c__law_pool : Cal P w K mg base 1 "_law_pool" 2 F__law_pool := ⟨f__law_pool, _, _, o__law_pool, PySem.W.mg_of X G a__law_pool, k__law_pool, D__law_pool.binds (ps := ["_law_script", "_law_k"]) fun _ _ _ _ _ _ us hl => match us, hl with | [_, _], _ => rfl⟩
  have o__law_take := ok__law_take (P := P) (w := w) (base := base) N (funC D__law_take)
  have h_c__law_take : Cal P w K mg base 1 "_law_take" 2 F__law_take := ⟨f__law_take, _, _, o__law_take, PySem.W.mg_of X G a__law_take, k__law_take, D__law_take.binds (ps := ["_law_source", "_law_top"]) fun _ _ _ _ _ _ us hl => match us, hl with | [_, _], _ => rfl⟩
  have o_is_number_pair := ok_is_number_pair (P := P) (w := w) (base := base) N (funC D_is_number_pair) h_c_is_number
  have h_c_is_number_pair : Cal P w K mg base 2 "is_number_pair" 1 F_is_number_pair := ⟨f_is_number_pair, _, _, o_is_number_pair, PySem.W.mg_of X G a_is_number_pair, k_is_number_pair, D_is_number_pair.binds (ps := ["value"]) fun _ _ _ _ _ _ us hl => match us, hl with | [_], _ => rfl⟩
  have o_is_slope_ahead := ok_is_slope_ahead (P := P) (w := w) (base := base) N (funC D_is_slope_ahead) h_c_cross h_c_is_upper
  have h_c_is_slope_ahead : Cal P w K mg base 2 "is_slope_ahead" 2 F_is_slope_ahead := ⟨f_is_slope_ahead, _, _, o_is_slope_ahead, PySem.W.mg_of X G a_is_slope_ahead, k_is_slope_ahead, D_is_slope_ahead.binds (ps := ["one", "other"]) fun _ _ _ _ _ _ us hl => match us, hl with | [_, _], _ => rfl⟩
  have o_is_slope_alike := ok_is_slope_alike (P := P) (w := w) (base := base) N (funC D_is_slope_alike) h_c_cross h_c_dot
  have h_c_is_slope_alike : Cal P w K mg base 2 "is_slope_alike" 2 F_is_slope_alike := ⟨f_is_slope_alike, _, _, o_is_slope_alike, PySem.W.mg_of X G a_is_slope_alike, k_is_slope_alike, D_is_slope_alike.binds (ps := ["one", "other"]) fun _ _ _ _ _ _ us hl => match us, hl with | [_, _], _ => rfl⟩
  have o_bare_of := ok_bare_of (P := P) (w := w) (base := base) N (funC D_bare_of) h_c_bare_and_length
  have h_c_bare_of : Cal P w K mg base 2 "bare_of" 1 F_bare_of := ⟨f_bare_of, _, _, o_bare_of, PySem.W.mg_of X G a_bare_of, k_bare_of, D_bare_of.binds (ps := ["vector"]) fun _ _ _ _ _ _ us hl => match us, hl with | [_], _ => rfl⟩
  have o__law_one := ok__law_one (P := P) (w := w) (base := base) N (funC D__law_one) h_c__law_take
  have h_c__law_one : Cal P w K mg base 2 "_law_one" 2 F__law_one := ⟨f__law_one, _, _, o__law_one, PySem.W.mg_of X G a__law_one, k__law_one, D__law_one.binds (ps := ["_law_source", "_law_things"]) fun _ _ _ _ _ _ us hl => match us, hl with | [_, _], _ => rfl⟩
  have o_is_fraction := ok_is_fraction (P := P) (w := w) (base := base) N (funC D_is_fraction) h_c_is_number_pair
  have h_c_is_fraction : Cal P w K mg base 3 "is_fraction" 1 F_is_fraction := ⟨f_is_fraction, _, _, o_is_fraction, PySem.W.mg_of X G a_is_fraction, k_is_fraction, D_is_fraction.binds (ps := ["value"]) fun _ _ _ _ _ _ us hl => match us, hl with | [_], _ => rfl⟩
  have o_is_point := ok_is_point (P := P) (w := w) (base := base) N (funC D_is_point) h_c_is_number_pair
  have h_c_is_point : Cal P w K mg base 3 "is_point" 1 F_is_point := ⟨f_is_point, _, _, o_is_point, PySem.W.mg_of X G a_is_point, k_is_point, D_is_point.binds (ps := ["value"]) fun _ _ _ _ _ _ us hl => match us, hl with | [_], _ => rfl⟩
  have o_is_vector := ok_is_vector (P := P) (w := w) (base := base) N (funC D_is_vector) h_c_is_number_pair
  have h_c_is_vector : Cal P w K mg base 3 "is_vector" 1 F_is_vector := ⟨f_is_vector, _, _, o_is_vector, PySem.W.mg_of X G a_is_vector, k_is_vector, D_is_vector.binds (ps := ["value"]) fun _ _ _ _ _ _ us hl => match us, hl with | [_], _ => rfl⟩
  have o_merged_by_slope := ok_merged_by_slope (P := P) (w := w) (base := base) N (funC D_merged_by_slope) h_c_is_slope_ahead
  have h_c_merged_by_slope : Cal P w K mg base 3 "merged_by_slope" 2 F_merged_by_slope := ⟨f_merged_by_slope, _, _, o_merged_by_slope, PySem.W.mg_of X G a_merged_by_slope, k_merged_by_slope, D_merged_by_slope.binds (ps := ["one", "other"]) fun _ _ _ _ _ _ us hl => match us, hl with | [_, _], _ => rfl⟩
  have o__law_vector := ok__law_vector (P := P) (w := w) (base := base) N (funC D__law_vector) h_c__law_one h_c__law_take
  have h_c__law_vector : Cal P w K mg base 3 "_law_vector" 1 F__law_vector := ⟨f__law_vector, _, _, o__law_vector, PySem.W.mg_of X G a__law_vector, k__law_vector, D__law_vector.binds (ps := ["_law_source"]) fun _ _ _ _ _ _ us hl => match us, hl with | [_], _ => rfl⟩
  have o_is_fine_point := ok_is_fine_point (P := P) (w := w) (base := base) N (funC D_is_fine_point) h_c_is_fraction
  have h_c_is_fine_point : Cal P w K mg base 4 "is_fine_point" 1 F_is_fine_point := ⟨f_is_fine_point, _, _, o_is_fine_point, PySem.W.mg_of X G a_is_fine_point, k_is_fine_point, D_is_fine_point.binds (ps := ["value"]) fun _ _ _ _ _ _ us hl => match us, hl with | [_], _ => rfl⟩
  have h_k0_is_fine_point : CalK P w K mg base 4 "is_fine_point" 1 0 ["value"] [0] F_is_fine_point := ⟨f_is_fine_point, _, _, o_is_fine_point, PySem.W.mg_of X G a_is_fine_point, k_is_fine_point, kb_mk (by decide) rfl fun us ws h1 h2 => match us, ws, h1, h2 with | [], [_], _, _ => rfl⟩
  have o_is_direction := ok_is_direction (P := P) (w := w) (base := base) N (funC D_is_direction) h_c_is_vector
  have h_c_is_direction : Cal P w K mg base 4 "is_direction" 1 F_is_direction := ⟨f_is_direction, _, _, o_is_direction, PySem.W.mg_of X G a_is_direction, k_is_direction, D_is_direction.binds (ps := ["value"]) fun _ _ _ _ _ _ us hl => match us, hl with | [_], _ => rfl⟩
  have o_need_direction := ok_need_direction (P := P) (w := w) (base := base) N (funC D_need_direction) h_c_is_direction h_e_NoVector
  have h_c_need_direction : Cal P w K mg base 5 "need_direction" 1 F_need_direction := ⟨f_need_direction, _, _, o_need_direction, PySem.W.mg_of X G a_need_direction, k_need_direction, D_need_direction.binds (ps := ["vector"]) fun _ _ _ _ _ _ us hl => match us, hl with | [_], _ => rfl⟩
  have o__law_points_right := ok__law_points_right (P := P) (w := w) (base := base) N (funC D__law_points_right) h_c__law_one h_c_is_fine_point h_c_is_point h_k0_is_fine_point
  have h_c__law_points_right : Cal P w K mg base 5 "_law_points_right" 2 F__law_points_right := ⟨f__law_points_right, _, _, o__law_points_right, PySem.W.mg_of X G a__law_points_right, k__law_points_right, D__law_points_right.binds (ps := ["_law_source", "_law_x"]) fun _ _ _ _ _ _ us hl => match us, hl with | [_, _], _ => rfl⟩
  have o_comes_ahead := ok_comes_ahead (P := P) (w := w) (base := base) N (funC D_comes_ahead) h_c_is_slope_ahead h_c_need_direction
  have h_c_comes_ahead : Cal P w K mg base 6 "comes_ahead" 2 F_comes_ahead := ⟨f_comes_ahead, _, _, o_comes_ahead, PySem.W.mg_of X G a_comes_ahead, k_comes_ahead, D_comes_ahead.binds (ps := ["one", "other"]) fun _ _ _ _ _ _ us hl => match us, hl with | [_, _], _ => rfl⟩
  have o_same_slope := ok_same_slope (P := P) (w := w) (base := base) N (funC D_same_slope) h_c_is_slope_alike h_c_need_direction
  have h_c_same_slope : Cal P w K mg base 6 "same_slope" 2 F_same_slope := ⟨f_same_slope, _, _, o_same_slope, PySem.W.mg_of X G a_same_slope, k_same_slope, D_same_slope.binds (ps := ["one", "other"]) fun _ _ _ _ _ _ us hl => match us, hl with | [_, _], _ => rfl⟩
  have o_bare_vector := ok_bare_vector (P := P) (w := w) (base := base) N (funC D_bare_vector) h_c_bare_of h_c_need_direction
  have h_c_bare_vector : Cal P w K mg base 6 "bare_vector" 1 F_bare_vector := ⟨f_bare_vector, _, _, o_bare_vector, PySem.W.mg_of X G a_bare_vector, k_bare_vector, D_bare_vector.binds (ps := ["vector"]) fun _ _ _ _ _ _ us hl => match us, hl with | [_], _ => rfl⟩
  have o_sorted_by_slope := okr_sorted_by_slope (P := P) (w := w) (base := base) N (funC D_sorted_by_slope) (PySem.W.mg_of X G a_sorted_by_slope) k_sorted_by_slope (D_sorted_by_slope.binds (ps := ["vectors"]) fun _ _ _ _ _ _ us hl => match us, hl with | [_], _ => rfl) h_c_merged_by_slope 12
  have h_c_sorted_by_slope : Cal P w K mg base 16 "sorted_by_slope" 1 F_sorted_by_slope := ⟨f_sorted_by_slope, _, _, o_sorted_by_slope, PySem.W.mg_of X G a_sorted_by_slope, k_sorted_by_slope, D_sorted_by_slope.binds (ps := ["vectors"]) fun _ _ _ _ _ _ us hl => match us, hl with | [_], _ => rfl⟩
  have o_in_slopes := ok_in_slopes (P := P) (w := w) (base := base) N (funC D_in_slopes) h_c_is_row h_c_need_direction h_c_sorted_by_slope h_e_NoVector
  have h_c_in_slopes : Cal P w K mg base 17 "in_slopes" 1 F_in_slopes := ⟨f_in_slopes, _, _, o_in_slopes, PySem.W.mg_of X G a_in_slopes, k_in_slopes, D_in_slopes.binds (ps := ["vectors"]) fun _ _ _ _ _ _ us hl => match us, hl with | [_], _ => rfl⟩
  have o__law_called := ok__law_called (P := P) (w := w) (base := base) N (funC D__law_called) h_c_bare_vector h_c_comes_ahead h_c_in_slopes h_c_same_slope
  have h_c__law_called : Cal P w K mg base 18 "_law_called" 3 F__law_called := ⟨f__law_called, _, _, o__law_called, PySem.W.mg_of X G a__law_called, k__law_called, D__law_called.binds (ps := ["_law_way", "_law_first", "_law_second"]) fun _ _ _ _ _ _ us hl => match us, hl with | [_, _, _], _ => rfl⟩
  have o__law_told := ok__law_told (P := P) (w := w) (base := base) N (funC D__law_told) h_c__law_called h_g_NoVector h_g_ShapeError h_i_NoVector_ShapeError h_k_NoVector h_m_NoVector
  have h_c__law_told : Cal P w K mg base 19 "_law_told" 3 F__law_told := ⟨f__law_told, _, _, o__law_told, PySem.W.mg_of X G a__law_told, k__law_told, D__law_told.binds (ps := ["_law_way", "_law_first", "_law_second"]) fun _ _ _ _ _ _ us hl => match us, hl with | [_, _, _], _ => rfl⟩
  have o_law := ok_law (P := P) (w := w) (base := base) N (funC D_law) h_c__law_one h_c__law_points_right h_c__law_pool h_c__law_take h_c__law_told h_c__law_vector
  exact law_end o_law hF
end Lw

namespace Lw
open PySem PySem.Spec PyProof.Rows L2 TL
theorem take_ok (t : Int) (s : Src) : RF (fun s => [Sl.io s.l]) eI (mTake t s) (F__law_take [.io s.l, .pv (.int t)]) := RF_take t s
theorem one_ok {α : Type} {e : α → PyData} (xs : List α) (s : Src) : RF (fun s => [Sl.io s.l]) e (mOne xs s) (F__law_one [.io s.l, .pv (eL e xs)]) := RF_one xs s
theorem pool_ok {ns : List Int} : ∀ k : Nat, k ≤ 1000 → F__law_pool [.sc ns, .pv (.int k)] = .fresh (pool ns k).l [.sc ns, .pv (.int k)] := fun k h => pool_eq ns k h
noncomputable def mb__law_vector : QM Src (Fl Unit Empty (Int × Int)) :=
    (rSq (rB (rT (rT (r2 oSub (rCS mTake (rP (9 : Int))) (rP (4 : Int))) (r2 oSub (rCS mTake (rP (9 : Int))) (rP (4 : Int)))) (rCS mTake (rP (6 : Int)))) fun x => rP (.nx x)) fun (v1 : (Int × Int) × Int) =>
    (rSq (rI (r2 (oEq eI eI) (rP v1.2) (rP (0 : Int))) (rSq (rB (rT (rM (fun p => p.1) (rP v1.1)) (rP (0 : Int))) fun a => rP (.nx a)) fun (v4 : (Int × Int)) => rP (.nx v4)) (rP (.nx v1.1))) fun (t2 : (Int × Int)) =>
    (rSq (rI (r2 (oEq eI eI) (rP v1.2) (rP (1 : Int))) (rSq (rB (rT (rP (0 : Int)) (rM (fun p => p.2) (rP t2))) fun a => rP (.nx a)) fun (v7 : (Int × Int)) => rP (.nx v7)) (rP (.nx t2))) fun (t5 : (Int × Int)) =>
    (rSq (rB (rCS mOne (rCl (rP (1 : Int)) (rCl (rP (1 : Int)) (rCl (rP (2 : Int)) (rCl (rP (7 : Int)) (rCl (r2 oPow (rP (10 : Int)) (rP (40 : Int))) (rP []))))))) fun a => rP (.nx a)) fun (v8 : Int) =>
    (rB (rI (r2 (oNe (eT2 eI eI) (eT2 eI eI)) (rP t5) (rT (rP (0 : Int)) (rP (0 : Int)))) (rT (r2 oMul (rM (fun p => p.1) (rP t5)) (rP v8)) (r2 oMul (rM (fun p => p.2) (rP t5)) (rP v8))) (rT (rP v8) (rP (0 : Int)))) fun a => rP (.rt a))))))
noncomputable abbrev cq__law_vector : Cq Src Empty (Int × Int) := ⟨(fun s => ([.is (some (.io (Src.l s))), .top, .top, .top] : List Pat)), (fun l => nomatch l), (fun r => .v ((eT2 eI eI) r)), (fun s => ([.is (some (.io (Src.l s))), .top, .top, .top] : List Pat))⟩
theorem rb__law_vector : SS (cq__law_vector) (fun s => ([.is (some (.io (Src.l s))), .is none, .is none, .is none] : List Pat)) (fun (_ : Unit) => (fun s => ([.is (some (.io (Src.l s))), .top, .top, .top] : List Pat))) (mb__law_vector) b__law_vector := by
  unfold mb__law_vector b__law_vector
  refine rs_seq (Et := (fun (v1 : Vc × Int) s => ([.is (some (.io (Src.l s))), .is none, .v (eP v1.1), .v (eI v1.2)] : List Pat))) ?_ ?_
  · exact rs_par (i := 2) (j := 3) (v := fun x => eP x.1) (w := fun x => eI x.2) (Em := (fun (v1 : Vc × Int) s => ([.is (some (.io (Src.l s))), .is none, .v (eP v1.1), .is none] : List Pat))) (Ea := (fun (v1 : Vc × Int) s => ([.is (some (.io (Src.l s))), .is none, .v (eP v1.1), .v (eI v1.2)] : List Pat))) (ra_c (e1 := eP) (es := fun (x : Int) => [eI x]) (re_tup (enc := eP) (fun _ => rfl) (ra_c (e1 := eI) (es := fun (x : Int) => [eI x]) (re_op ot_sub (re_callS (l := Src.l) (enc := eI) (.inr fun _ => ⟨rfl, fun _ => rfl⟩) (.inr fun _ => ⟨rfl, fun _ => rfl⟩) (es := fun x => [eI x]) (fun x s => take_ok x s) (ra_1 (re_c (enc := eI) (a := 9))) (fun _ => (.r (.t (.t (.t .nil)))))) (re_c (enc := eI) (a := 4))) (ra_1 (e1 := eI) (re_op ot_sub (re_callS (l := Src.l) (enc := eI) (.inr fun _ => ⟨rfl, fun _ => rfl⟩) (.inr fun _ => ⟨rfl, fun _ => rfl⟩) (es := fun x => [eI x]) (fun x s => take_ok x s) (ra_1 (re_c (enc := eI) (a := 9))) (fun _ => (.r (.t (.t (.t .nil)))))) (re_c (enc := eI) (a := 4)))))) (ra_1 (e1 := eI) (re_callS (l := Src.l) (enc := eI) (.inr fun _ => ⟨rfl, fun _ => rfl⟩) (.inr fun _ => ⟨rfl, fun _ => rfl⟩) (es := fun x => [eI x]) (fun x s => take_ok x s) (ra_1 (re_c (enc := eI) (a := 6))) (fun _ => (.r (.t (.t (.t .nil)))))))) (fun _ => rfl) (fun _ => rg_nm (fun _ => ⟨rfl, rfl⟩) (fun _ => rfl)) (fun _ => rg_nm (fun _ => ⟨rfl, rfl⟩) (fun _ => rfl))
  · intro v1
    refine rs_seq (Et := (fun (t2 : Vc) s => ([.is (some (.io (Src.l s))), .is none, .v (eP t2), .v (eI v1.2)] : List Pat))) ?_ ?_
    · refine rs_if (Et := (fun (t2 : Vc) s => ([.is (some (.io (Src.l s))), .is none, .v (eP t2), .v (eI v1.2)] : List Pat))) (E1 := (fun s => ([.is (some (.io (Src.l s))), .is none, .v (eP v1.1), .v (eI v1.2)] : List Pat))) (rt_bool (re_op ot_eq (re_var (enc := eI) (fun _ => rfl)) (re_c (enc := eI) (a := 0)))) ?_ ?_
      · refine rs_cv (Et := (fun (v4 : Vc) s => ([.is (some (.io (Src.l s))), .is none, .v (eP v4), .v (eI v1.2)] : List Pat))) (fun (v4 : Vc) => v4) ?_ (fun v4 => (fun _ => (.r (.r (.r (.r .nil))))))
        exact rs_asg (enc := eP) (Ea := (fun v4 s => ([.is (some (.io (Src.l s))), .is none, .v (eP v4), .v (eI v1.2)] : List Pat))) (re_tup (enc := eP) (fun _ => rfl) (ra_c (e1 := eI) (es := fun (x : Int) => [eI x]) (re_opC (e1 := eP) (e3 := eI) (fun _ => rfl) (re_var (enc := eP) (fun _ => rfl))) (ra_1 (e1 := eI) (re_c (enc := eI) (a := 0))))) (fun v4 => (rg_nm (fun _ => ⟨rfl, rfl⟩) (fun _ => rfl)))
      · exact rs_passT (fun _ => (.r (.r (.r (.r .nil)))))
    · intro t2
      refine rs_seq (Et := (fun (t5 : Vc) s => ([.is (some (.io (Src.l s))), .is none, .v (eP t5), .v (eI v1.2)] : List Pat))) ?_ ?_
      · refine rs_if (Et := (fun (t5 : Vc) s => ([.is (some (.io (Src.l s))), .is none, .v (eP t5), .v (eI v1.2)] : List Pat))) (E1 := (fun s => ([.is (some (.io (Src.l s))), .is none, .v (eP t2), .v (eI v1.2)] : List Pat))) (rt_bool (re_op ot_eq (re_var (enc := eI) (fun _ => rfl)) (re_c (enc := eI) (a := 1)))) ?_ ?_
        · refine rs_cv (Et := (fun (v7 : Vc) s => ([.is (some (.io (Src.l s))), .is none, .v (eP v7), .v (eI v1.2)] : List Pat))) (fun (v7 : Vc) => v7) ?_ (fun v7 => (fun _ => (.r (.r (.r (.r .nil))))))
          exact rs_asg (enc := eP) (Ea := (fun v7 s => ([.is (some (.io (Src.l s))), .is none, .v (eP v7), .v (eI v1.2)] : List Pat))) (re_tup (enc := eP) (fun _ => rfl) (ra_c (e1 := eI) (es := fun (x : Int) => [eI x]) (re_c (enc := eI) (a := 0)) (ra_1 (e1 := eI) (re_opC (e1 := eP) (e3 := eI) (fun _ => rfl) (re_var (enc := eP) (fun _ => rfl)))))) (fun v7 => (rg_nm (fun _ => ⟨rfl, rfl⟩) (fun _ => rfl)))
        · exact rs_passT (fun _ => (.r (.r (.r (.r .nil)))))
      · intro t5
        refine rs_seq (Et := (fun (v8 : Int) s => ([.is (some (.io (Src.l s))), .v (eI v8), .v (eP t5), .v (eI v1.2)] : List Pat))) ?_ ?_
        · exact rs_asg (enc := eI) (Ea := (fun v8 s => ([.is (some (.io (Src.l s))), .v (eI v8), .v (eP t5), .v (eI v1.2)] : List Pat))) (re_callS (l := Src.l) (enc := eI) (.inr fun _ => ⟨rfl, fun _ => rfl⟩) (.inr fun _ => ⟨rfl, fun _ => rfl⟩) (es := fun x => [eL eI x]) (fun x s => one_ok x s) (ra_1 (re_lst (ral_c (re_c (enc := eI) (a := 1)) (ral_c (re_c (enc := eI) (a := 1)) (ral_c (re_c (enc := eI) (a := 2)) (ral_c (re_c (enc := eI) (a := 7)) (ral_c (re_op ot_pow (re_c (enc := eI) (a := 10)) (re_c (enc := eI) (a := 40))) (ral_nil (enc := eI))))))))) (fun _ => (.r (.t (.t (.t .nil)))))) (fun v8 => (rg_nm (fun _ => ⟨rfl, rfl⟩) (fun _ => rfl)))
        · intro v8
          exact rs_ret (re_if (rt_bool (re_op ot_ne (re_var (enc := eP) (fun _ => rfl)) (re_tup (enc := eP) (fun _ => rfl) (ra_c (e1 := eI) (es := fun (x : Int) => [eI x]) (re_c (enc := eI) (a := 0)) (ra_1 (e1 := eI) (re_c (enc := eI) (a := 0))))))) (re_tup (enc := eP) (fun _ => rfl) (ra_c (e1 := eI) (es := fun (x : Int) => [eI x]) (re_op ot_mul (re_opC (e1 := eP) (e3 := eI) (fun _ => rfl) (re_var (enc := eP) (fun _ => rfl))) (re_var (enc := eI) (fun _ => rfl))) (ra_1 (e1 := eI) (re_op ot_mul (re_opC (e1 := eP) (e3 := eI) (fun _ => rfl) (re_var (enc := eP) (fun _ => rfl))) (re_var (enc := eI) (fun _ => rfl)))))) (re_tup (enc := eP) (fun _ => rfl) (ra_c (e1 := eI) (es := fun (x : Int) => [eI x]) (re_var (enc := eI) (fun _ => rfl)) (ra_1 (e1 := eI) (re_c (enc := eI) (a := 0)))))) (fun _ => rfl) (fun _ => (.r (.t (.t (.t .nil)))))
noncomputable def M__law_vector : QM Src (Int × Int) := rRet (mb__law_vector)
theorem r__law_vector (s : Src) : RF (fun s => [Sl.io (Src.l s)]) eP (M__law_vector s) (F__law_vector (Sl.io (Src.l s) :: List.map Sl.pv [])) :=
  fn_V (h := (.io Src.l)) (n := 4) (vs := []) (ps := [.top, .top, .top]) (qs := [.top, .top, .top]) (rb__law_vector) (fun _ => rfl) (fun _ => rfl) (fun _ => rfl) s (by exact (.cons rfl (.cons rfl (.cons rfl (.cons rfl .nil)))))
noncomputable def M__law_told_AAA (p_way : PyData) (p_first : PyData) (p_second : PyData) : R Unit PyData := semD (F__law_told [.pv p_way, .pv p_first, .pv p_second])
theorem r__law_told_AAA (p_way : PyData) (p_first : PyData) (p_second : PyData) : RF noS eA (M__law_told_AAA p_way p_first p_second) (F__law_told (List.map Sl.pv [eA p_way, eA p_first, eA p_second])) := RF_semD _
noncomputable def mb_is_number_I (p_value : Int) : QM Unit (Fl Unit Empty Bool) :=
    (rB (rAnd (rM (fun _ => true) (rP p_value)) (rM not (rM (fun _ => false) (rP p_value)))) fun a => rP (.rt a))
noncomputable abbrev cq_is_number_I : Cq Unit Empty Bool := ⟨(fun s => ([.top] : List Pat)), (fun l => nomatch l), (fun r => .v (eB r)), (fun s => ([.top] : List Pat))⟩
theorem rb_is_number_I (p_value : Int) : SS (cq_is_number_I) (fun s => ([.v (eI p_value)] : List Pat)) (fun (_ : Unit) => (fun s => ([.top] : List Pat))) (mb_is_number_I p_value) b_is_number := by
  unfold mb_is_number_I b_is_number
  exact rs_ret (re_andV (re_isA (e1 := eI) (fun _ => by simp) (re_var (enc := eI) (fun _ => rfl))) (re_notB (re_isA (e1 := eI) (fun _ => by simp) (re_var (enc := eI) (fun _ => rfl))))) (fun _ => rfl) (fun _ => (.t .nil))
noncomputable def M_is_number_I (p_value : Int) : R Unit Bool := rRet (mb_is_number_I p_value) ()
theorem r_is_number_I (p_value : Int) : RF noS eB (M_is_number_I p_value) (F_is_number (List.map Sl.pv [eI p_value])) :=
  fn_V (h := .no) (n := 1) (vs := [eI p_value]) (ps := [.top]) (qs := [.top]) (rb_is_number_I p_value) (fun _ => rfl) (fun _ => rfl) (fun _ => rfl) () (by exact (.cons rfl .nil))
noncomputable def mb_is_number_pair_P (p_value : (Int × Int)) : QM Unit (Fl Unit Empty Bool) :=
    (rB (rAnd (rM (fun _ => true) (rP p_value)) (rAnd (r2 (oEq eI eI) (rM (fun _ => (2 : Int)) (rP p_value)) (rP (2 : Int))) (rAnd (rC (fun (x : Int) => M_is_number_I x) (rM (fun p => p.1) (rP p_value))) (rC (fun (x : Int) => M_is_number_I x) (rM (fun p => p.2) (rP p_value)))))) fun a => rP (.rt a))
noncomputable abbrev cq_is_number_pair_P : Cq Unit Empty Bool := ⟨(fun s => ([.top] : List Pat)), (fun l => nomatch l), (fun r => .v (eB r)), (fun s => ([.top] : List Pat))⟩
theorem rb_is_number_pair_P (p_value : Vc) : SS (cq_is_number_pair_P) (fun s => ([.v (eP p_value)] : List Pat)) (fun (_ : Unit) => (fun s => ([.top] : List Pat))) (mb_is_number_pair_P p_value) b_is_number_pair := by
  unfold mb_is_number_pair_P b_is_number_pair
  exact rs_ret (re_andV (re_isA (e1 := eP) (fun _ => by simp) (re_var (enc := eP) (fun _ => rfl))) (re_andV (re_op ot_eq (re_cbM (fun _ => rfl) (ra_1 (re_var (enc := eP) (fun _ => rfl)))) (re_c (enc := eI) (a := 2))) (re_andV (re_call (enc := eB) (es := fun (x : Int) => [eI x]) (fun x => r_is_number_I x) (ra_1 (e1 := eI) (re_opC (e1 := eP) (e3 := eI) (fun _ => rfl) (re_var (enc := eP) (fun _ => rfl)))) (fun _ => (.t .nil))) (re_call (enc := eB) (es := fun (x : Int) => [eI x]) (fun x => r_is_number_I x) (ra_1 (e1 := eI) (re_opC (e1 := eP) (e3 := eI) (fun _ => rfl) (re_var (enc := eP) (fun _ => rfl)))) (fun _ => (.t .nil)))))) (fun _ => rfl) (fun _ => (.t .nil))
noncomputable def M_is_number_pair_P (p_value : (Int × Int)) : R Unit Bool := rRet (mb_is_number_pair_P p_value) ()
theorem r_is_number_pair_P (p_value : Vc) : RF noS eB (M_is_number_pair_P p_value) (F_is_number_pair (List.map Sl.pv [eP p_value])) :=
  fn_V (h := .no) (n := 1) (vs := [eP p_value]) (ps := [.top]) (qs := [.top]) (rb_is_number_pair_P p_value) (fun _ => rfl) (fun _ => rfl) (fun _ => rfl) () (by exact (.cons rfl .nil))
noncomputable def mb_is_point_P (p_value : (Int × Int)) : QM Unit (Fl Unit Empty Bool) :=
    (rB (rAnd (rC (fun (x : (Int × Int)) => M_is_number_pair_P x) (rP p_value)) (r2 oLe (rM (fun p : Int × Int => if p.2 > p.1 then p.2 else p.1) (rT (rM (fun i : Int => if i < 0 then -i else i) (rM (fun p => p.1) (rP p_value))) (rM (fun i : Int => if i < 0 then -i else i) (rM (fun p => p.2) (rP p_value))))) (rP c_POINT_MOST))) fun a => rP (.rt a))
noncomputable abbrev cq_is_point_P : Cq Unit Empty Bool := ⟨(fun s => ([.top] : List Pat)), (fun l => nomatch l), (fun r => .v (eB r)), (fun s => ([.top] : List Pat))⟩
theorem rb_is_point_P (p_value : Vc) : SS (cq_is_point_P) (fun s => ([.v (eP p_value)] : List Pat)) (fun (_ : Unit) => (fun s => ([.top] : List Pat))) (mb_is_point_P p_value) b_is_point := by
  unfold mb_is_point_P b_is_point
  exact rs_ret (re_andV (re_call (enc := eB) (es := fun (x : Vc) => [eP x]) (fun x => r_is_number_pair_P x) (ra_1 (e1 := eP) (re_var (enc := eP) (fun _ => rfl))) (fun _ => (.t .nil))) (re_op ot_le (re_cbM (fun _ => rfl) (ra_c (e1 := eI) (es := fun (x : Int) => [eI x]) (re_cbM (fun _ => rfl) (ra_1 (re_opC (e1 := eP) (e3 := eI) (fun _ => rfl) (re_var (enc := eP) (fun _ => rfl))))) (ra_1 (e1 := eI) (re_cbM (fun _ => rfl) (ra_1 (re_opC (e1 := eP) (e3 := eI) (fun _ => rfl) (re_var (enc := eP) (fun _ => rfl)))))))) (re_c (enc := eI) (a := c_POINT_MOST)))) (fun _ => rfl) (fun _ => (.t .nil))
noncomputable def M_is_point_P (p_value : (Int × Int)) : R Unit Bool := rRet (mb_is_point_P p_value) ()
theorem r_is_point_P (p_value : Vc) : RF noS eB (M_is_point_P p_value) (F_is_point (List.map Sl.pv [eP p_value])) :=
  fn_V (h := .no) (n := 1) (vs := [eP p_value]) (ps := [.top]) (qs := [.top]) (rb_is_point_P p_value) (fun _ => rfl) (fun _ => rfl) (fun _ => rfl) () (by exact (.cons rfl .nil))
noncomputable def mb_is_fraction_P (p_value : (Int × Int)) : QM Unit (Fl Unit Empty Bool) :=
    (rB (rAnd (rC (fun (x : (Int × Int)) => M_is_number_pair_P x) (rP p_value)) (rAnd (r2 oGt (rM (fun p => p.2) (rP p_value)) (rP (0 : Int))) (r2 (oEq eI eI) (rM (fun p : Int × Int => ((Nat.gcd p.1.natAbs p.2.natAbs : Nat) : Int)) (rT (rM (fun p => p.1) (rP p_value)) (rM (fun p => p.2) (rP p_value)))) (rP (1 : Int))))) fun a => rP (.rt a))
noncomputable abbrev cq_is_fraction_P : Cq Unit Empty Bool := ⟨(fun s => ([.top] : List Pat)), (fun l => nomatch l), (fun r => .v (eB r)), (fun s => ([.top] : List Pat))⟩
theorem rb_is_fraction_P (p_value : Vc) : SS (cq_is_fraction_P) (fun s => ([.v (eP p_value)] : List Pat)) (fun (_ : Unit) => (fun s => ([.top] : List Pat))) (mb_is_fraction_P p_value) b_is_fraction := by
  unfold mb_is_fraction_P b_is_fraction
  exact rs_ret (re_andV (re_call (enc := eB) (es := fun (x : Vc) => [eP x]) (fun x => r_is_number_pair_P x) (ra_1 (e1 := eP) (re_var (enc := eP) (fun _ => rfl))) (fun _ => (.t .nil))) (re_andV (re_op ot_gt (re_opC (e1 := eP) (e3 := eI) (fun _ => rfl) (re_var (enc := eP) (fun _ => rfl))) (re_c (enc := eI) (a := 0))) (re_op ot_eq (re_cbM (fun _ => rfl) (ra_c (e1 := eI) (es := fun (x : Int) => [eI x]) (re_opC (e1 := eP) (e3 := eI) (fun _ => rfl) (re_var (enc := eP) (fun _ => rfl))) (ra_1 (e1 := eI) (re_opC (e1 := eP) (e3 := eI) (fun _ => rfl) (re_var (enc := eP) (fun _ => rfl)))))) (re_c (enc := eI) (a := 1))))) (fun _ => rfl) (fun _ => (.t .nil))
noncomputable def M_is_fraction_P (p_value : (Int × Int)) : R Unit Bool := rRet (mb_is_fraction_P p_value) ()
theorem r_is_fraction_P (p_value : Vc) : RF noS eB (M_is_fraction_P p_value) (F_is_fraction (List.map Sl.pv [eP p_value])) :=
  fn_V (h := .no) (n := 1) (vs := [eP p_value]) (ps := [.top]) (qs := [.top]) (rb_is_fraction_P p_value) (fun _ => rfl) (fun _ => rfl) (fun _ => rfl) () (by exact (.cons rfl .nil))
noncomputable def mb_is_fine_point_QPPq (p_value : ((Int × Int) × (Int × Int))) : QM Unit (Fl Unit Empty Bool) :=
    (rB (rAnd (rM (fun _ => true) (rP p_value)) (rAnd (r2 (oEq eI eI) (rM (fun _ => (2 : Int)) (rP p_value)) (rP (2 : Int))) (rAnd (rC (fun (x : (Int × Int)) => M_is_fraction_P x) (rM (fun p => p.1) (rP p_value))) (rC (fun (x : (Int × Int)) => M_is_fraction_P x) (rM (fun p => p.2) (rP p_value)))))) fun a => rP (.rt a))
noncomputable abbrev cq_is_fine_point_QPPq : Cq Unit Empty Bool := ⟨(fun s => ([.top] : List Pat)), (fun l => nomatch l), (fun r => .v (eB r)), (fun s => ([.top] : List Pat))⟩
theorem rb_is_fine_point_QPPq (p_value : (Vc × Vc)) : SS (cq_is_fine_point_QPPq) (fun s => ([.v ((eT2 eP eP) p_value)] : List Pat)) (fun (_ : Unit) => (fun s => ([.top] : List Pat))) (mb_is_fine_point_QPPq p_value) b_is_fine_point := by
  unfold mb_is_fine_point_QPPq b_is_fine_point
  exact rs_ret (re_andV (re_isA (e1 := (eT2 eP eP)) (fun _ => by simp) (re_var (enc := (eT2 eP eP)) (fun _ => rfl))) (re_andV (re_op ot_eq (re_cbM (fun _ => rfl) (ra_1 (re_var (enc := (eT2 eP eP)) (fun _ => rfl)))) (re_c (enc := eI) (a := 2))) (re_andV (re_call (enc := eB) (es := fun (x : Vc) => [eP x]) (fun x => r_is_fraction_P x) (ra_1 (e1 := eP) (re_opC (e1 := (eT2 eP eP)) (e3 := eP) (fun _ => rfl) (re_var (enc := (eT2 eP eP)) (fun _ => rfl)))) (fun _ => (.t .nil))) (re_call (enc := eB) (es := fun (x : Vc) => [eP x]) (fun x => r_is_fraction_P x) (ra_1 (e1 := eP) (re_opC (e1 := (eT2 eP eP)) (e3 := eP) (fun _ => rfl) (re_var (enc := (eT2 eP eP)) (fun _ => rfl)))) (fun _ => (.t .nil)))))) (fun _ => rfl) (fun _ => (.t .nil))
noncomputable def M_is_fine_point_QPPq (p_value : ((Int × Int) × (Int × Int))) : R Unit Bool := rRet (mb_is_fine_point_QPPq p_value) ()
theorem r_is_fine_point_QPPq (p_value : (Vc × Vc)) : RF noS eB (M_is_fine_point_QPPq p_value) (F_is_fine_point (List.map Sl.pv [(eT2 eP eP) p_value])) :=
  fn_V (h := .no) (n := 1) (vs := [(eT2 eP eP) p_value]) (ps := [.top]) (qs := [.top]) (rb_is_fine_point_QPPq p_value) (fun _ => rfl) (fun _ => rfl) (fun _ => rfl) () (by exact (.cons rfl .nil))
noncomputable def M_is_point_A (p : PyData) : R Unit Bool := semB (F_is_point [.pv p])
theorem r_is_point_A (p : PyData) : RF noS eB (M_is_point_A p) (F_is_point (List.map Sl.pv [eA p])) := RF_semB _
noncomputable def M_is_fine_point_A (p : PyData) : R Unit Bool := semB (F_is_fine_point [.pv p])
theorem r_is_fine_point_A (p : PyData) : RF noS eB (M_is_fine_point_A p) (F_is_fine_point (List.map Sl.pv [eA p])) := RF_semB _
noncomputable def mb__law_points_right_I (p_x : Int) : QM Src (Fl Unit Empty Bool) :=
    (rSq (rB (rCS mOne (rCl (r2 oAdd (r2 oPow (rP (10 : Int)) (rP (60 : Int))) (rP (1 : Int))) (rCl (r2 oSub (rM (fun i => -i) (r2 oPow (rP (10 : Int)) (rP (60 : Int)))) (rP (1 : Int))) (rP [])))) fun a => rP (.nx a)) fun (v1 : Int) =>
    (rSq (rB (rCl (rT (rP p_x) (rP (0 : Int))) (rCl (rT (r2 oPow (rP (10 : Int)) (rP (60 : Int))) (rM (fun i => -i) (r2 oPow (rP (10 : Int)) (rP (60 : Int))))) (rCl (rT (rP (0 : Int)) (rP p_x)) (rP [])))) fun xs => rFor (fun (x3 : (Int × Int)) (t2 : Unit) =>
    (rI (rOr (r2 (oB pyIsNot eB eB) (rC (fun (x : (Int × Int)) => M_is_point_P x) (rP x3)) (rP true)) (r2 (oB pyIsNot eB eB) (rC (fun (x : ((Int × Int) × (Int × Int))) => M_is_fine_point_QPPq x) (rT (rT (rP p_x) (rP (1 : Int))) (rT (rP (1 : Int)) (rP (2 : Int))))) (rP true))) (rB (rP false) fun a => rP (.rt a)) (rP (.nx ())))) xs ()) fun (t2 : Unit) =>
    (rSq (rB (rCl (rM (eT2 eI eI) (rT (rP v1) (rP (0 : Int)))) (rCl (rM (eT2 eI eI) (rT (rP (0 : Int)) (rP v1))) (rCl (rM (eT1 eI) (rP p_x)) (rCl (rM (eT3 eI eI eI) (rT (rP p_x) (rT (rP (0 : Int)) (rP (0 : Int))))) (rCl (rM (eL eI) (rCl (rP p_x) (rCl (rP (0 : Int)) (rP [])))) (rCl (rM (eT2 eB eI) (rT (rP true) (rP (0 : Int)))) (rCl (rM (eT2 eI eN) (rT (rP p_x) (rP ()))) (rCl (rM (eT2 (eT2 eI eI) (eT2 eI eI)) (rT (rT (rP p_x) (rP (1 : Int))) (rT (rP (0 : Int)) (rP (1 : Int))))) (rCl (rM eI (rP p_x)) (rCl (rM eN (rP ())) (rP []))))))))))) fun a => rP (.nx a)) fun (v5 : (List PyData)) =>
    (rSq (rB (r2 oCat (rP v5) (rM (List.map eS) (rCl (rP ("xy" : Str)) (rP [])))) fun xs => rFor (fun (x7 : PyData) (t6 : Unit) =>
    (rI (r2 (oB pyIsNot eB eB) (rC (fun (x : PyData) => M_is_point_A x) (rP x7)) (rP false)) (rB (rP false) fun a => rP (.rt a)) (rP (.nx ())))) xs ()) fun (t6 : Unit) =>
    (rSq (rB (rCl (rM (eT2 eI eI) (rT (rP p_x) (rP (0 : Int)))) (rCl (rM (eT1 (eT2 eI eI)) (rT (rP p_x) (rP (1 : Int)))) (rCl (rM (eT2 (eT2 eI eI) (eT2 eI eI)) (rT (rT (rP (2 : Int)) (rP (4 : Int))) (rT (rP p_x) (rP (1 : Int))))) (rCl (rM (eT2 (eT2 eI eI) (eT2 eI eI)) (rT (rT (rP p_x) (rP (1 : Int))) (rT (rP (1 : Int)) (rP (0 : Int))))) (rCl (rM (eL (eT2 eI eI)) (rCl (rT (rP p_x) (rP (1 : Int))) (rCl (rT (rP p_x) (rP (1 : Int))) (rP [])))) (rCl (rM (eT2 (eT2 eI eI) (eT2 eI eI)) (rT (rT (rP p_x) (rP (1 : Int))) (rT (rP (3 : Int)) (rM (fun i => -i) (rP (2 : Int)))))) (rCl (rM eN (rP ())) (rCl (rM eI (rP (7 : Int))) (rP []))))))))) fun xs => rFor (fun (x10 : PyData) (t9 : Unit) =>
    (rI (r2 (oB pyIsNot eB eB) (rC (fun (x : PyData) => M_is_fine_point_A x) (rP x10)) (rP false)) (rB (rP false) fun a => rP (.rt a)) (rP (.nx ())))) xs ()) fun (t9 : Unit) =>
    (rSq (rB (r2 oMul (r2 oPow (rP (10 : Int)) (rP (60 : Int))) (r2 oPow (rP (10 : Int)) (rP (39 : Int)))) fun a => rP (.nx a)) fun (v12 : Int) =>
    (rB (r2 (oB pyIs eB eB) (rC (fun (x : ((Int × Int) × (Int × Int))) => M_is_fine_point_QPPq x) (rT (rT (rP v12) (rP (1 : Int))) (rT (rP (1 : Int)) (rP v12)))) (rP true)) fun a => rP (.rt a))))))))
noncomputable abbrev cq__law_points_right_I : Cq Src Empty Bool := ⟨(fun s => ([.is (some (.io (Src.l s))), .top, .top, .top, .top, .top, .top] : List Pat)), (fun l => nomatch l), (fun r => .v (eB r)), (fun s => ([.is (some (.io (Src.l s))), .top, .top, .top, .top, .top, .top] : List Pat))⟩
theorem rb__law_points_right_I (p_x : Int) : SS (cq__law_points_right_I) (fun s => ([.is (some (.io (Src.l s))), .v (eI p_x), .is none, .is none, .is none, .is none, .is none] : List Pat)) (fun (_ : Unit) => (fun s => ([.is (some (.io (Src.l s))), .top, .top, .top, .top, .top, .top] : List Pat))) (mb__law_points_right_I p_x) b__law_points_right := by
  unfold mb__law_points_right_I b__law_points_right
  refine rs_seq (Et := (fun (v1 : Int) s => ([.is (some (.io (Src.l s))), .v (eI p_x), .v (eI v1), .is none, .is none, .is none, .is none] : List Pat))) ?_ ?_
  · exact rs_asg (enc := eI) (Ea := (fun v1 s => ([.is (some (.io (Src.l s))), .v (eI p_x), .v (eI v1), .is none, .is none, .is none, .is none] : List Pat))) (re_callS (l := Src.l) (enc := eI) (.inr fun _ => ⟨rfl, fun _ => rfl⟩) (.inr fun _ => ⟨rfl, fun _ => rfl⟩) (es := fun x => [eL eI x]) (fun x s => one_ok x s) (ra_1 (re_lst (ral_c (re_op ot_add (re_op ot_pow (re_c (enc := eI) (a := 10)) (re_c (enc := eI) (a := 60))) (re_c (enc := eI) (a := 1))) (ral_c (re_op ot_sub (re_neg (re_op ot_pow (re_c (enc := eI) (a := 10)) (re_c (enc := eI) (a := 60)))) (re_c (enc := eI) (a := 1))) (ral_nil (enc := eI)))))) (fun _ => (.r (.t (.t (.t (.t (.t (.t .nil))))))))) (fun v1 => (rg_nm (fun _ => ⟨rfl, rfl⟩) (fun _ => rfl)))
  · intro v1
    refine rs_seq (Et := (fun (t2 : Unit) s => ([.is (some (.io (Src.l s))), .v (eI p_x), .v (eI v1), .any, .is none, .is none, .is none] : List Pat))) ?_ ?_
    · refine rs_for (ea := eP) (E1 := (fun s => ([.is (some (.io (Src.l s))), .v (eI p_x), .v (eI v1), .is none, .is none, .is none, .is none] : List Pat))) (I := (fun (t2 : Unit) s => ([.is (some (.io (Src.l s))), .v (eI p_x), .v (eI v1), .any, .is none, .is none, .is none] : List Pat))) (B := (fun (x3 : Vc) (t2 : Unit) s => ([.is (some (.io (Src.l s))), .v (eI p_x), .v (eI v1), .v (eP x3), .is none, .is none, .is none] : List Pat))) (t0 := ()) (ri_L (enc := eP) (re_lst (ral_c (re_tup (enc := eP) (fun _ => rfl) (ra_c (e1 := eI) (es := fun (x : Int) => [eI x]) (re_var (enc := eI) (fun _ => rfl)) (ra_1 (e1 := eI) (re_c (enc := eI) (a := 0))))) (ral_c (re_tup (enc := eP) (fun _ => rfl) (ra_c (e1 := eI) (es := fun (x : Int) => [eI x]) (re_op ot_pow (re_c (enc := eI) (a := 10)) (re_c (enc := eI) (a := 60))) (ra_1 (e1 := eI) (re_neg (re_op ot_pow (re_c (enc := eI) (a := 10)) (re_c (enc := eI) (a := 60))))))) (ral_c (re_tup (enc := eP) (fun _ => rfl) (ra_c (e1 := eI) (es := fun (x : Int) => [eI x]) (re_c (enc := eI) (a := 0)) (ra_1 (e1 := eI) (re_var (enc := eI) (fun _ => rfl))))) (ral_nil (enc := eP))))))) (fun _ => (.r (.r (.r (.cons pl_no (.r (.r (.r .nil)))))))) (fun x3 t2 => (rg_nm (fun _ => ⟨rfl, rfl⟩) (fun _ => rfl))) ?_
      intro x3 t2
      refine rs_if (E1 := (fun s => ([.is (some (.io (Src.l s))), .v (eI p_x), .v (eI v1), .v (eP x3), .is none, .is none, .is none] : List Pat))) (rt_or (rt_bool (re_op (ot_B (g := pyIsNot)) (re_call (enc := eB) (es := fun (x : Vc) => [eP x]) (fun x => r_is_point_P x) (ra_1 (e1 := eP) (re_var (enc := eP) (fun _ => rfl))) (fun _ => (.r (.t (.t (.t (.t (.t (.t .nil))))))))) (re_c (enc := eB) (a := true)))) (rt_bool (re_op (ot_B (g := pyIsNot)) (re_call (enc := eB) (es := fun (x : (Vc × Vc)) => [(eT2 eP eP) x]) (fun x => r_is_fine_point_QPPq x) (ra_1 (e1 := (eT2 eP eP)) (re_tup (enc := (eT2 eP eP)) (fun _ => rfl) (ra_c (e1 := eP) (es := fun (x : Vc) => [eP x]) (re_tup (enc := eP) (fun _ => rfl) (ra_c (e1 := eI) (es := fun (x : Int) => [eI x]) (re_var (enc := eI) (fun _ => rfl)) (ra_1 (e1 := eI) (re_c (enc := eI) (a := 1))))) (ra_1 (e1 := eP) (re_tup (enc := eP) (fun _ => rfl) (ra_c (e1 := eI) (es := fun (x : Int) => [eI x]) (re_c (enc := eI) (a := 1)) (ra_1 (e1 := eI) (re_c (enc := eI) (a := 2))))))))) (fun _ => (.r (.t (.t (.t (.t (.t (.t .nil))))))))) (re_c (enc := eB) (a := true))))) ?_ ?_
      · exact rs_ret (re_c (enc := eB) (a := false)) (fun _ => rfl) (fun _ => (.r (.t (.t (.t (.t (.t (.t .nil))))))))
      · exact rs_passT (fun _ => (.r (.r (.r (.cons pl_pv (.r (.r (.r .nil))))))))
    · intro t2
      refine rs_seq (Et := (fun (v5 : (List PyData)) s => ([.is (some (.io (Src.l s))), .v (eI p_x), .v (eI v1), .any, .v ((eL eA) v5), .is none, .is none] : List Pat))) ?_ ?_
      · exact rs_asg (enc := (eL eA)) (Ea := (fun v5 s => ([.is (some (.io (Src.l s))), .v (eI p_x), .v (eI v1), .any, .v ((eL eA) v5), .is none, .is none] : List Pat))) (re_lst (ral_c (re_map (e1 := eP) (e2 := eA) (fun _ => rfl) (re_tup (enc := eP) (fun _ => rfl) (ra_c (e1 := eI) (es := fun (x : Int) => [eI x]) (re_var (enc := eI) (fun _ => rfl)) (ra_1 (e1 := eI) (re_c (enc := eI) (a := 0)))))) (ral_c (re_map (e1 := eP) (e2 := eA) (fun _ => rfl) (re_tup (enc := eP) (fun _ => rfl) (ra_c (e1 := eI) (es := fun (x : Int) => [eI x]) (re_c (enc := eI) (a := 0)) (ra_1 (e1 := eI) (re_var (enc := eI) (fun _ => rfl)))))) (ral_c (re_map (e1 := (eT1 eI)) (e2 := eA) (fun _ => rfl) (re_tup (enc := (eT1 eI)) (fun _ => rfl) (ra_1 (e1 := eI) (re_var (enc := eI) (fun _ => rfl))))) (ral_c (re_map (e1 := (eT3 eI eI eI)) (e2 := eA) (fun _ => rfl) (re_tup (enc := (eT3 eI eI eI)) (fun _ => rfl) (ra_c (e1 := eI) (es := fun (x : Int × Int) => [eI x.1, eI x.2]) (re_var (enc := eI) (fun _ => rfl)) (ra_c (e1 := eI) (es := fun (x : Int) => [eI x]) (re_c (enc := eI) (a := 0)) (ra_1 (e1 := eI) (re_c (enc := eI) (a := 0))))))) (ral_c (re_map (e1 := (eL eI)) (e2 := eA) (fun _ => rfl) (re_lst (ral_c (re_var (enc := eI) (fun _ => rfl)) (ral_c (re_c (enc := eI) (a := 0)) (ral_nil (enc := eI)))))) (ral_c (re_map (e1 := (eT2 eB eI)) (e2 := eA) (fun _ => rfl) (re_tup (enc := (eT2 eB eI)) (fun _ => rfl) (ra_c (e1 := eB) (es := fun (x : Int) => [eI x]) (re_c (enc := eB) (a := true)) (ra_1 (e1 := eI) (re_c (enc := eI) (a := 0)))))) (ral_c (re_map (e1 := (eT2 eI eN)) (e2 := eA) (fun _ => rfl) (re_tup (enc := (eT2 eI eN)) (fun _ => rfl) (ra_c (e1 := eI) (es := fun (x : Unit) => [eN x]) (re_var (enc := eI) (fun _ => rfl)) (ra_1 (e1 := eN) (re_c (enc := eN) (a := ())))))) (ral_c (re_map (e1 := (eT2 eP eP)) (e2 := eA) (fun _ => rfl) (re_tup (enc := (eT2 eP eP)) (fun _ => rfl) (ra_c (e1 := eP) (es := fun (x : Vc) => [eP x]) (re_tup (enc := eP) (fun _ => rfl) (ra_c (e1 := eI) (es := fun (x : Int) => [eI x]) (re_var (enc := eI) (fun _ => rfl)) (ra_1 (e1 := eI) (re_c (enc := eI) (a := 1))))) (ra_1 (e1 := eP) (re_tup (enc := eP) (fun _ => rfl) (ra_c (e1 := eI) (es := fun (x : Int) => [eI x]) (re_c (enc := eI) (a := 0)) (ra_1 (e1 := eI) (re_c (enc := eI) (a := 1))))))))) (ral_c (re_map (e1 := eI) (e2 := eA) (fun _ => rfl) (re_var (enc := eI) (fun _ => rfl))) (ral_c (re_map (e1 := eN) (e2 := eA) (fun _ => rfl) (re_c (enc := eN) (a := ()))) (ral_nil (enc := eA))))))))))))) (fun v5 => (rg_nm (fun _ => ⟨rfl, rfl⟩) (fun _ => rfl)))
      · intro v5
        refine rs_seq (Et := (fun (t6 : Unit) s => ([.is (some (.io (Src.l s))), .v (eI p_x), .v (eI v1), .any, .v ((eL eA) v5), .any, .is none] : List Pat))) ?_ ?_
        · refine rs_for (ea := eA) (E1 := (fun s => ([.is (some (.io (Src.l s))), .v (eI p_x), .v (eI v1), .any, .v ((eL eA) v5), .is none, .is none] : List Pat))) (I := (fun (t6 : Unit) s => ([.is (some (.io (Src.l s))), .v (eI p_x), .v (eI v1), .any, .v ((eL eA) v5), .any, .is none] : List Pat))) (B := (fun (x7 : PyData) (t6 : Unit) s => ([.is (some (.io (Src.l s))), .v (eI p_x), .v (eI v1), .any, .v ((eL eA) v5), .v (eA x7), .is none] : List Pat))) (t0 := ()) (ri_L (enc := eA) (re_op (ot_catL (e := eA)) (re_var (enc := (eL eA)) (fun _ => rfl)) (re_map (e1 := (eL eS)) (e2 := (eL eA)) (fun x => by first | rfl | (cases x <;> rfl) | simp) (re_lst (ral_c (re_c (enc := eS) (a := ("xy" : Str))) (ral_nil (enc := eS))))))) (fun _ => (.r (.r (.r (.r (.r (.cons pl_no (.r .nil)))))))) (fun x7 t6 => (rg_nm (fun _ => ⟨rfl, rfl⟩) (fun _ => rfl))) ?_
          intro x7 t6
          refine rs_if (E1 := (fun s => ([.is (some (.io (Src.l s))), .v (eI p_x), .v (eI v1), .any, .v ((eL eA) v5), .v (eA x7), .is none] : List Pat))) (rt_bool (re_op (ot_B (g := pyIsNot)) (re_call (enc := eB) (es := fun (x : PyData) => [eA x]) (fun x => r_is_point_A x) (ra_1 (e1 := eA) (re_var (enc := eA) (fun _ => rfl))) (fun _ => (.r (.t (.t (.t (.t (.t (.t .nil))))))))) (re_c (enc := eB) (a := false)))) ?_ ?_
          · exact rs_ret (re_c (enc := eB) (a := false)) (fun _ => rfl) (fun _ => (.r (.t (.t (.t (.t (.t (.t .nil))))))))
          · exact rs_passT (fun _ => (.r (.r (.r (.r (.r (.cons pl_pv (.r .nil))))))))
        · intro t6
          refine rs_seq (Et := (fun (t9 : Unit) s => ([.is (some (.io (Src.l s))), .v (eI p_x), .v (eI v1), .any, .v ((eL eA) v5), .any, .is none] : List Pat))) ?_ ?_
          · refine rs_for (ea := eA) (E1 := (fun s => ([.is (some (.io (Src.l s))), .v (eI p_x), .v (eI v1), .any, .v ((eL eA) v5), .any, .is none] : List Pat))) (I := (fun (t9 : Unit) s => ([.is (some (.io (Src.l s))), .v (eI p_x), .v (eI v1), .any, .v ((eL eA) v5), .any, .is none] : List Pat))) (B := (fun (x10 : PyData) (t9 : Unit) s => ([.is (some (.io (Src.l s))), .v (eI p_x), .v (eI v1), .any, .v ((eL eA) v5), .v (eA x10), .is none] : List Pat))) (t0 := ()) (ri_L (enc := eA) (re_lst (ral_c (re_map (e1 := eP) (e2 := eA) (fun _ => rfl) (re_tup (enc := eP) (fun _ => rfl) (ra_c (e1 := eI) (es := fun (x : Int) => [eI x]) (re_var (enc := eI) (fun _ => rfl)) (ra_1 (e1 := eI) (re_c (enc := eI) (a := 0)))))) (ral_c (re_map (e1 := (eT1 eP)) (e2 := eA) (fun _ => rfl) (re_tup (enc := (eT1 eP)) (fun _ => rfl) (ra_1 (e1 := eP) (re_tup (enc := eP) (fun _ => rfl) (ra_c (e1 := eI) (es := fun (x : Int) => [eI x]) (re_var (enc := eI) (fun _ => rfl)) (ra_1 (e1 := eI) (re_c (enc := eI) (a := 1)))))))) (ral_c (re_map (e1 := (eT2 eP eP)) (e2 := eA) (fun _ => rfl) (re_tup (enc := (eT2 eP eP)) (fun _ => rfl) (ra_c (e1 := eP) (es := fun (x : Vc) => [eP x]) (re_tup (enc := eP) (fun _ => rfl) (ra_c (e1 := eI) (es := fun (x : Int) => [eI x]) (re_c (enc := eI) (a := 2)) (ra_1 (e1 := eI) (re_c (enc := eI) (a := 4))))) (ra_1 (e1 := eP) (re_tup (enc := eP) (fun _ => rfl) (ra_c (e1 := eI) (es := fun (x : Int) => [eI x]) (re_var (enc := eI) (fun _ => rfl)) (ra_1 (e1 := eI) (re_c (enc := eI) (a := 1))))))))) (ral_c (re_map (e1 := (eT2 eP eP)) (e2 := eA) (fun _ => rfl) (re_tup (enc := (eT2 eP eP)) (fun _ => rfl) (ra_c (e1 := eP) (es := fun (x : Vc) => [eP x]) (re_tup (enc := eP) (fun _ => rfl) (ra_c (e1 := eI) (es := fun (x : Int) => [eI x]) (re_var (enc := eI) (fun _ => rfl)) (ra_1 (e1 := eI) (re_c (enc := eI) (a := 1))))) (ra_1 (e1 := eP) (re_tup (enc := eP) (fun _ => rfl) (ra_c (e1 := eI) (es := fun (x : Int) => [eI x]) (re_c (enc := eI) (a := 1)) (ra_1 (e1 := eI) (re_c (enc := eI) (a := 0))))))))) (ral_c (re_map (e1 := (eL eP)) (e2 := eA) (fun _ => rfl) (re_lst (ral_c (re_tup (enc := eP) (fun _ => rfl) (ra_c (e1 := eI) (es := fun (x : Int) => [eI x]) (re_var (enc := eI) (fun _ => rfl)) (ra_1 (e1 := eI) (re_c (enc := eI) (a := 1))))) (ral_c (re_tup (enc := eP) (fun _ => rfl) (ra_c (e1 := eI) (es := fun (x : Int) => [eI x]) (re_var (enc := eI) (fun _ => rfl)) (ra_1 (e1 := eI) (re_c (enc := eI) (a := 1))))) (ral_nil (enc := eP)))))) (ral_c (re_map (e1 := (eT2 eP eP)) (e2 := eA) (fun _ => rfl) (re_tup (enc := (eT2 eP eP)) (fun _ => rfl) (ra_c (e1 := eP) (es := fun (x : Vc) => [eP x]) (re_tup (enc := eP) (fun _ => rfl) (ra_c (e1 := eI) (es := fun (x : Int) => [eI x]) (re_var (enc := eI) (fun _ => rfl)) (ra_1 (e1 := eI) (re_c (enc := eI) (a := 1))))) (ra_1 (e1 := eP) (re_tup (enc := eP) (fun _ => rfl) (ra_c (e1 := eI) (es := fun (x : Int) => [eI x]) (re_c (enc := eI) (a := 3)) (ra_1 (e1 := eI) (re_neg (re_c (enc := eI) (a := 2)))))))))) (ral_c (re_map (e1 := eN) (e2 := eA) (fun _ => rfl) (re_c (enc := eN) (a := ()))) (ral_c (re_map (e1 := eI) (e2 := eA) (fun _ => rfl) (re_c (enc := eI) (a := 7))) (ral_nil (enc := eA)))))))))))) (fun _ => (.r (.r (.r (.r (.r (.r (.r .nil)))))))) (fun x10 t9 => (rg_nm (fun _ => ⟨rfl, rfl⟩) (fun _ => rfl))) ?_
            intro x10 t9
            refine rs_if (E1 := (fun s => ([.is (some (.io (Src.l s))), .v (eI p_x), .v (eI v1), .any, .v ((eL eA) v5), .v (eA x10), .is none] : List Pat))) (rt_bool (re_op (ot_B (g := pyIsNot)) (re_call (enc := eB) (es := fun (x : PyData) => [eA x]) (fun x => r_is_fine_point_A x) (ra_1 (e1 := eA) (re_var (enc := eA) (fun _ => rfl))) (fun _ => (.r (.t (.t (.t (.t (.t (.t .nil))))))))) (re_c (enc := eB) (a := false)))) ?_ ?_
            · exact rs_ret (re_c (enc := eB) (a := false)) (fun _ => rfl) (fun _ => (.r (.t (.t (.t (.t (.t (.t .nil))))))))
            · exact rs_passT (fun _ => (.r (.r (.r (.r (.r (.cons pl_pv (.r .nil))))))))
          · intro t9
            refine rs_seq (Et := (fun (v12 : Int) s => ([.is (some (.io (Src.l s))), .v (eI p_x), .v (eI v1), .any, .v ((eL eA) v5), .any, .v (eI v12)] : List Pat))) ?_ ?_
            · exact rs_asg (enc := eI) (Ea := (fun v12 s => ([.is (some (.io (Src.l s))), .v (eI p_x), .v (eI v1), .any, .v ((eL eA) v5), .any, .v (eI v12)] : List Pat))) (re_op ot_mul (re_op ot_pow (re_c (enc := eI) (a := 10)) (re_c (enc := eI) (a := 60))) (re_op ot_pow (re_c (enc := eI) (a := 10)) (re_c (enc := eI) (a := 39)))) (fun v12 => (rg_nm (fun _ => ⟨rfl, rfl⟩) (fun _ => rfl)))
            · intro v12
              exact rs_ret (re_op (ot_B (g := pyIs)) (re_callP (enc := eB) (es := fun (x : (Vc × Vc)) => [(eT2 eP eP) x]) (fun x => r_is_fine_point_QPPq x) (ra_1 (e1 := (eT2 eP eP)) (re_tup (enc := (eT2 eP eP)) (fun _ => rfl) (ra_c (e1 := eP) (es := fun (x : Vc) => [eP x]) (re_tup (enc := eP) (fun _ => rfl) (ra_c (e1 := eI) (es := fun (x : Int) => [eI x]) (re_var (enc := eI) (fun _ => rfl)) (ra_1 (e1 := eI) (re_c (enc := eI) (a := 1))))) (ra_1 (e1 := eP) (re_tup (enc := eP) (fun _ => rfl) (ra_c (e1 := eI) (es := fun (x : Int) => [eI x]) (re_c (enc := eI) (a := 1)) (ra_1 (e1 := eI) (re_var (enc := eI) (fun _ => rfl))))))))) (fun _ => (.r (.t (.t (.t (.t (.t (.t .nil))))))))) (re_c (enc := eB) (a := true))) (fun _ => rfl) (fun _ => (.r (.t (.t (.t (.t (.t (.t .nil))))))))
noncomputable def M__law_points_right_I (p_x : Int) : QM Src Bool := rRet (mb__law_points_right_I p_x)
theorem r__law_points_right_I (p_x : Int) (s : Src) : RF (fun s => [Sl.io (Src.l s)]) eB (M__law_points_right_I p_x s) (F__law_points_right (Sl.io (Src.l s) :: List.map Sl.pv [eI p_x])) :=
  fn_V (h := (.io Src.l)) (n := 7) (vs := [eI p_x]) (ps := [.top, .top, .top, .top, .top, .top]) (qs := [.top, .top, .top, .top, .top, .top]) (rb__law_points_right_I p_x) (fun _ => rfl) (fun _ => rfl) (fun _ => rfl) s (by exact (.cons rfl (.cons rfl (.cons rfl (.cons rfl (.cons rfl (.cons rfl (.cons rfl .nil))))))))
noncomputable def mb_law (ns : List Int) : QM Src (Fl Unit Empty Bool) :=
    (rSq (rPool (τ := Unit) ns (rP (0 : Int))) fun (_ : Unit) =>
    (rSq (rB (rCS (fun (x : Unit) => M__law_vector) (rP ())) fun a => rP (.nx a)) fun (v2 : (Int × Int)) =>
    (rSq (rB (rCl (rM (eT2 eI eI) (rT (rP (0 : Int)) (rP (0 : Int)))) (rCl (rM (eT1 eI) (rP (1 : Int))) (rCl (rM (eL eI) (rCl (rP (1 : Int)) (rCl (rP (0 : Int)) (rP [])))) (rCl (rM (eT3 eI eI eI) (rT (rP (1 : Int)) (rT (rP (0 : Int)) (rP (0 : Int))))) (rCl (rM (eT2 eB eI) (rT (rP true) (rP (0 : Int)))) (rCl (rM (eT2 eI eI) (rT (r2 oAdd (r2 oPow (rP (10 : Int)) (rP (61 : Int))) (rP (1 : Int))) (rP (0 : Int)))) (rCl (rM (eT2 eI eI) (rT (rP (0 : Int)) (r2 oSub (rM (fun i => -i) (r2 oPow (rP (10 : Int)) (rP (61 : Int)))) (rP (1 : Int))))) (rCl (rM eN (rP ())) (rCl (rM eI (rP (5 : Int))) (rCl (rM eS (rP ("v" : Str))) (rP []))))))))))) fun a => rP (.nx a)) fun (v3 : (List PyData)) =>
    (rSq (rB (rCS mOne (rP v3)) fun a => rP (.nx a)) fun (v4 : PyData) =>
    (rSq (rB (r1 oRng1 (rP (3 : Int))) fun xs => rFor (fun (x6 : Int) (t5 : Unit) =>
    (rI (r2 (oNe eA (eT3 eS eA eB)) (rC (fun (x : PyData × PyData × PyData) => M__law_told_AAA x.1 x.2.1 x.2.2) (rT (rM eI (rP x6)) (rT (rP v4) (rM eN (rP ()))))) (rT (rP ("none" : Str)) (rT (rP v4) (rP true)))) (rB (rP false) fun a => rP (.rt a)) (rP (.nx ())))) xs ()) fun (t5 : Unit) =>
    (rSq (rB (r1 oRng1 (rP (2 : Int))) fun xs => rFor (fun (x9 : Int) (t8 : Unit) =>
    (rI (rOr (r2 (oNe eA (eT3 eS eA eB)) (rC (fun (x : PyData × PyData × PyData) => M__law_told_AAA x.1 x.2.1 x.2.2) (rT (rM eI (rP x9)) (rT (rM (eT2 eI eI) (rP v2)) (rP v4)))) (rT (rP ("none" : Str)) (rT (rP v4) (rP true)))) (r2 (oNe eA eS) (rC (fun (x : PyData × PyData × PyData) => M__law_told_AAA x.1 x.2.1 x.2.2) (rT (rM eI (rP x9)) (rT (rM (eT2 eI eI) (rP v2)) (rM (eT2 eI eI) (rT (r2 oPow (rP (10 : Int)) (rP (61 : Int))) (rP (1 : Int))))))) (rP ("nothing" : Str)))) (rB (rP false) fun a => rP (.rt a)) (rP (.nx ())))) xs ()) fun (t8 : Unit) =>
    (rSq (rI (rOr (r2 (oNe eA (eT3 eS eA eB)) (rC (fun (x : PyData × PyData × PyData) => M__law_told_AAA x.1 x.2.1 x.2.2) (rT (rM eI (rP (3 : Int))) (rT (rM (eL eA) (rCl (rM (eT2 eI eI) (rP v2)) (rCl (rP v4) (rCl (rM eN (rP ())) (rP []))))) (rM eN (rP ()))))) (rT (rP ("none" : Str)) (rT (rP v4) (rP true)))) (r2 (oNe eA eS) (rC (fun (x : PyData × PyData × PyData) => M__law_told_AAA x.1 x.2.1 x.2.2) (rT (rM eI (rP (3 : Int))) (rT (rM (eTL (eT2 eI eI)) (r2 oRep (rM (fun x => [x]) (rP v2)) (rP (200 : Int)))) (rM eN (rP ()))))) (rP ("nothing" : Str)))) (rB (rP false) fun a => rP (.rt a)) (rP (.nx ()))) fun (t11 : Unit) =>
    (rSq (rB (rCl (rM eN (rP ())) (rCl (rM eI (rP (7 : Int))) (rCl (rM eS (rP ("v" : Str))) (rCl (rM (eTL (eT2 eI eI)) (r2 oRep (rM (fun x => [x]) (rP v2)) (rP (201 : Int)))) (rCl (r1 oDict1 (rCl (rT (rP v2) (rP (1 : Int))) (rP []))) (rP [])))))) fun xs => rFor (fun (x13 : PyData) (t12 : Unit) =>
    (rI (r2 (oNe eA (eT3 eS eN eB)) (rC (fun (x : PyData × PyData × PyData) => M__law_told_AAA x.1 x.2.1 x.2.2) (rT (rM eI (rP (3 : Int))) (rT (rP x13) (rM eN (rP ()))))) (rT (rP ("none" : Str)) (rT (rP ()) (rP true)))) (rB (rP false) fun a => rP (.rt a)) (rP (.nx ())))) xs ()) fun (t12 : Unit) =>
    (rB (rCS (fun (x : Int) => M__law_points_right_I x) (r2 oSub (rCS mTake (rP (99 : Int))) (rP (49 : Int)))) fun a => rP (.rt a))))))))))
noncomputable abbrev cq_law (ns : List Int) : Cq Src Empty Bool := ⟨(fun s => ([.is (some (.sc ns)), .top, .top, .top, .top, .top, .top] : List Pat)), (fun l => nomatch l), (fun r => .v (eB r)), (fun s => ([.is (some (.sc ns)), .top, .top, .top, .top, .top, .top] : List Pat))⟩
theorem rb_law (ns : List Int) : SS (cq_law ns) (fun s => ([.is (some (.sc ns)), .is none, .is none, .is none, .is none, .is none, .is none] : List Pat)) (fun (_ : Unit) => (fun s => ([.is (some (.sc ns)), .top, .top, .top, .top, .top, .top] : List Pat))) (mb_law ns) b_law := by
  unfold mb_law b_law
  refine rs_seq (Et := (fun (_ : Unit) s => ([.is (some (.sc ns)), .is (some (.ow (Src.l s))), .is none, .is none, .is none, .is none, .is none] : List Pat))) ?_ ?_
  · exact rs_pool (τ := Unit) (E2 := (fun s => ([.is (some (.sc ns)), .is (some (.ow (Src.l s))), .is none, .is none, .is none, .is none, .is none] : List Pat))) pool_ok (fun _ => rfl) (re_c (enc := eI) (a := 0)) (fun _ => rfl) (fun _ => ⟨_, rfl, rfl⟩) (fun _ _ => rfl)
  · intro _
    refine rs_seq (Et := (fun (v2 : Vc) s => ([.is (some (.sc ns)), .is (some (.ow (Src.l s))), .v (eP v2), .is none, .is none, .is none, .is none] : List Pat))) ?_ ?_
    · exact rs_asg (enc := eP) (Ea := (fun v2 s => ([.is (some (.sc ns)), .is (some (.ow (Src.l s))), .v (eP v2), .is none, .is none, .is none, .is none] : List Pat))) (re_callS (l := Src.l) (enc := eP) (es := fun (_ : Unit) => []) (.inl fun _ => ⟨rfl, fun _ => rfl⟩) (.inl fun _ => ⟨rfl, fun _ => rfl⟩) (fun x s => r__law_vector s) ra_0 (fun _ => (.r (.t (.t (.t (.t (.t (.t .nil))))))))) (fun v2 => (rg_nm (fun _ => ⟨rfl, rfl⟩) (fun _ => rfl)))
    · intro v2
      refine rs_seq (Et := (fun (v3 : (List PyData)) s => ([.is (some (.sc ns)), .is (some (.ow (Src.l s))), .v (eP v2), .v ((eL eA) v3), .is none, .is none, .is none] : List Pat))) ?_ ?_
      · exact rs_asg (enc := (eL eA)) (Ea := (fun v3 s => ([.is (some (.sc ns)), .is (some (.ow (Src.l s))), .v (eP v2), .v ((eL eA) v3), .is none, .is none, .is none] : List Pat))) (re_lst (ral_c (re_map (e1 := eP) (e2 := eA) (fun _ => rfl) (re_tup (enc := eP) (fun _ => rfl) (ra_c (e1 := eI) (es := fun (x : Int) => [eI x]) (re_c (enc := eI) (a := 0)) (ra_1 (e1 := eI) (re_c (enc := eI) (a := 0)))))) (ral_c (re_map (e1 := (eT1 eI)) (e2 := eA) (fun _ => rfl) (re_tup (enc := (eT1 eI)) (fun _ => rfl) (ra_1 (e1 := eI) (re_c (enc := eI) (a := 1))))) (ral_c (re_map (e1 := (eL eI)) (e2 := eA) (fun _ => rfl) (re_lst (ral_c (re_c (enc := eI) (a := 1)) (ral_c (re_c (enc := eI) (a := 0)) (ral_nil (enc := eI)))))) (ral_c (re_map (e1 := (eT3 eI eI eI)) (e2 := eA) (fun _ => rfl) (re_tup (enc := (eT3 eI eI eI)) (fun _ => rfl) (ra_c (e1 := eI) (es := fun (x : Int × Int) => [eI x.1, eI x.2]) (re_c (enc := eI) (a := 1)) (ra_c (e1 := eI) (es := fun (x : Int) => [eI x]) (re_c (enc := eI) (a := 0)) (ra_1 (e1 := eI) (re_c (enc := eI) (a := 0))))))) (ral_c (re_map (e1 := (eT2 eB eI)) (e2 := eA) (fun _ => rfl) (re_tup (enc := (eT2 eB eI)) (fun _ => rfl) (ra_c (e1 := eB) (es := fun (x : Int) => [eI x]) (re_c (enc := eB) (a := true)) (ra_1 (e1 := eI) (re_c (enc := eI) (a := 0)))))) (ral_c (re_map (e1 := eP) (e2 := eA) (fun _ => rfl) (re_tup (enc := eP) (fun _ => rfl) (ra_c (e1 := eI) (es := fun (x : Int) => [eI x]) (re_op ot_add (re_op ot_pow (re_c (enc := eI) (a := 10)) (re_c (enc := eI) (a := 61))) (re_c (enc := eI) (a := 1))) (ra_1 (e1 := eI) (re_c (enc := eI) (a := 0)))))) (ral_c (re_map (e1 := eP) (e2 := eA) (fun _ => rfl) (re_tup (enc := eP) (fun _ => rfl) (ra_c (e1 := eI) (es := fun (x : Int) => [eI x]) (re_c (enc := eI) (a := 0)) (ra_1 (e1 := eI) (re_op ot_sub (re_neg (re_op ot_pow (re_c (enc := eI) (a := 10)) (re_c (enc := eI) (a := 61)))) (re_c (enc := eI) (a := 1))))))) (ral_c (re_map (e1 := eN) (e2 := eA) (fun _ => rfl) (re_c (enc := eN) (a := ()))) (ral_c (re_map (e1 := eI) (e2 := eA) (fun _ => rfl) (re_c (enc := eI) (a := 5))) (ral_c (re_map (e1 := eS) (e2 := eA) (fun _ => rfl) (re_c (enc := eS) (a := ("v" : Str)))) (ral_nil (enc := eA))))))))))))) (fun v3 => (rg_nm (fun _ => ⟨rfl, rfl⟩) (fun _ => rfl)))
      · intro v3
        refine rs_seq (Et := (fun (v4 : PyData) s => ([.is (some (.sc ns)), .is (some (.ow (Src.l s))), .v (eP v2), .v ((eL eA) v3), .v (eA v4), .is none, .is none] : List Pat))) ?_ ?_
        · exact rs_asg (enc := eA) (Ea := (fun v4 s => ([.is (some (.sc ns)), .is (some (.ow (Src.l s))), .v (eP v2), .v ((eL eA) v3), .v (eA v4), .is none, .is none] : List Pat))) (re_callS (l := Src.l) (enc := eA) (.inl fun _ => ⟨rfl, fun _ => rfl⟩) (.inl fun _ => ⟨rfl, fun _ => rfl⟩) (es := fun x => [eL eA x]) (fun x s => one_ok x s) (ra_1 (re_var (enc := (eL eA)) (fun _ => rfl))) (fun _ => (.r (.t (.t (.t (.t (.t (.t .nil))))))))) (fun v4 => (rg_nm (fun _ => ⟨rfl, rfl⟩) (fun _ => rfl)))
        · intro v4
          refine rs_seq (Et := (fun (t5 : Unit) s => ([.is (some (.sc ns)), .is (some (.ow (Src.l s))), .v (eP v2), .v ((eL eA) v3), .v (eA v4), .any, .is none] : List Pat))) ?_ ?_
          · refine rs_for (ea := eI) (E1 := (fun s => ([.is (some (.sc ns)), .is (some (.ow (Src.l s))), .v (eP v2), .v ((eL eA) v3), .v (eA v4), .is none, .is none] : List Pat))) (I := (fun (t5 : Unit) s => ([.is (some (.sc ns)), .is (some (.ow (Src.l s))), .v (eP v2), .v ((eL eA) v3), .v (eA v4), .any, .is none] : List Pat))) (B := (fun (x6 : Int) (t5 : Unit) s => ([.is (some (.sc ns)), .is (some (.ow (Src.l s))), .v (eP v2), .v ((eL eA) v3), .v (eA v4), .v (eI x6), .is none] : List Pat))) (t0 := ()) (ri_rng1 (ra_1 (e1 := eI) (re_c (enc := eI) (a := 3)))) (fun _ => (.r (.r (.r (.r (.r (.cons pl_no (.r .nil)))))))) (fun x6 t5 => (rg_nm (fun _ => ⟨rfl, rfl⟩) (fun _ => rfl))) ?_
            intro x6 t5
            refine rs_if (E1 := (fun s => ([.is (some (.sc ns)), .is (some (.ow (Src.l s))), .v (eP v2), .v ((eL eA) v3), .v (eA v4), .v (eI x6), .is none] : List Pat))) (rt_bool (re_op ot_ne (re_call (enc := eA) (es := fun (x : PyData × PyData × PyData) => [eA x.1, eA x.2.1, eA x.2.2]) (fun x => r__law_told_AAA x.1 x.2.1 x.2.2) (ra_c (e1 := eA) (es := fun (x : PyData × PyData) => [eA x.1, eA x.2]) (re_map (e1 := eI) (e2 := eA) (fun _ => rfl) (re_var (enc := eI) (fun _ => rfl))) (ra_c (e1 := eA) (es := fun (x : PyData) => [eA x]) (re_var (enc := eA) (fun _ => rfl)) (ra_1 (e1 := eA) (re_map (e1 := eN) (e2 := eA) (fun _ => rfl) (re_c (enc := eN) (a := ())))))) (fun _ => (.r (.t (.t (.t (.t (.t (.t .nil))))))))) (re_tup (enc := (eT3 eS eA eB)) (fun _ => rfl) (ra_c (e1 := eS) (es := fun (x : PyData × Bool) => [eA x.1, eB x.2]) (re_c (enc := eS) (a := ("none" : Str))) (ra_c (e1 := eA) (es := fun (x : Bool) => [eB x]) (re_var (enc := eA) (fun _ => rfl)) (ra_1 (e1 := eB) (re_c (enc := eB) (a := true)))))))) ?_ ?_
            · exact rs_ret (re_c (enc := eB) (a := false)) (fun _ => rfl) (fun _ => (.r (.t (.t (.t (.t (.t (.t .nil))))))))
            · exact rs_passT (fun _ => (.r (.r (.r (.r (.r (.cons pl_pv (.r .nil))))))))
          · intro t5
            refine rs_seq (Et := (fun (t8 : Unit) s => ([.is (some (.sc ns)), .is (some (.ow (Src.l s))), .v (eP v2), .v ((eL eA) v3), .v (eA v4), .any, .is none] : List Pat))) ?_ ?_
            · refine rs_for (ea := eI) (E1 := (fun s => ([.is (some (.sc ns)), .is (some (.ow (Src.l s))), .v (eP v2), .v ((eL eA) v3), .v (eA v4), .any, .is none] : List Pat))) (I := (fun (t8 : Unit) s => ([.is (some (.sc ns)), .is (some (.ow (Src.l s))), .v (eP v2), .v ((eL eA) v3), .v (eA v4), .any, .is none] : List Pat))) (B := (fun (x9 : Int) (t8 : Unit) s => ([.is (some (.sc ns)), .is (some (.ow (Src.l s))), .v (eP v2), .v ((eL eA) v3), .v (eA v4), .v (eI x9), .is none] : List Pat))) (t0 := ()) (ri_rng1 (ra_1 (e1 := eI) (re_c (enc := eI) (a := 2)))) (fun _ => (.r (.r (.r (.r (.r (.r (.r .nil)))))))) (fun x9 t8 => (rg_nm (fun _ => ⟨rfl, rfl⟩) (fun _ => rfl))) ?_
              intro x9 t8
              refine rs_if (E1 := (fun s => ([.is (some (.sc ns)), .is (some (.ow (Src.l s))), .v (eP v2), .v ((eL eA) v3), .v (eA v4), .v (eI x9), .is none] : List Pat))) (rt_or (rt_bool (re_op ot_ne (re_call (enc := eA) (es := fun (x : PyData × PyData × PyData) => [eA x.1, eA x.2.1, eA x.2.2]) (fun x => r__law_told_AAA x.1 x.2.1 x.2.2) (ra_c (e1 := eA) (es := fun (x : PyData × PyData) => [eA x.1, eA x.2]) (re_map (e1 := eI) (e2 := eA) (fun _ => rfl) (re_var (enc := eI) (fun _ => rfl))) (ra_c (e1 := eA) (es := fun (x : PyData) => [eA x]) (re_map (e1 := eP) (e2 := eA) (fun _ => rfl) (re_var (enc := eP) (fun _ => rfl))) (ra_1 (e1 := eA) (re_var (enc := eA) (fun _ => rfl))))) (fun _ => (.r (.t (.t (.t (.t (.t (.t .nil))))))))) (re_tup (enc := (eT3 eS eA eB)) (fun _ => rfl) (ra_c (e1 := eS) (es := fun (x : PyData × Bool) => [eA x.1, eB x.2]) (re_c (enc := eS) (a := ("none" : Str))) (ra_c (e1 := eA) (es := fun (x : Bool) => [eB x]) (re_var (enc := eA) (fun _ => rfl)) (ra_1 (e1 := eB) (re_c (enc := eB) (a := true)))))))) (rt_bool (re_op ot_ne (re_call (enc := eA) (es := fun (x : PyData × PyData × PyData) => [eA x.1, eA x.2.1, eA x.2.2]) (fun x => r__law_told_AAA x.1 x.2.1 x.2.2) (ra_c (e1 := eA) (es := fun (x : PyData × PyData) => [eA x.1, eA x.2]) (re_map (e1 := eI) (e2 := eA) (fun _ => rfl) (re_var (enc := eI) (fun _ => rfl))) (ra_c (e1 := eA) (es := fun (x : PyData) => [eA x]) (re_map (e1 := eP) (e2 := eA) (fun _ => rfl) (re_var (enc := eP) (fun _ => rfl))) (ra_1 (e1 := eA) (re_map (e1 := eP) (e2 := eA) (fun _ => rfl) (re_tup (enc := eP) (fun _ => rfl) (ra_c (e1 := eI) (es := fun (x : Int) => [eI x]) (re_op ot_pow (re_c (enc := eI) (a := 10)) (re_c (enc := eI) (a := 61))) (ra_1 (e1 := eI) (re_c (enc := eI) (a := 1))))))))) (fun _ => (.r (.t (.t (.t (.t (.t (.t .nil))))))))) (re_c (enc := eS) (a := ("nothing" : Str)))))) ?_ ?_
              · exact rs_ret (re_c (enc := eB) (a := false)) (fun _ => rfl) (fun _ => (.r (.t (.t (.t (.t (.t (.t .nil))))))))
              · exact rs_passT (fun _ => (.r (.r (.r (.r (.r (.cons pl_pv (.r .nil))))))))
            · intro t8
              refine rs_seq (Et := (fun (t11 : Unit) s => ([.is (some (.sc ns)), .is (some (.ow (Src.l s))), .v (eP v2), .v ((eL eA) v3), .v (eA v4), .any, .is none] : List Pat))) ?_ ?_
              · refine rs_if (Et := (fun (t11 : Unit) s => ([.is (some (.sc ns)), .is (some (.ow (Src.l s))), .v (eP v2), .v ((eL eA) v3), .v (eA v4), .any, .is none] : List Pat))) (E1 := (fun s => ([.is (some (.sc ns)), .is (some (.ow (Src.l s))), .v (eP v2), .v ((eL eA) v3), .v (eA v4), .any, .is none] : List Pat))) (rt_or (rt_bool (re_op ot_ne (re_call (enc := eA) (es := fun (x : PyData × PyData × PyData) => [eA x.1, eA x.2.1, eA x.2.2]) (fun x => r__law_told_AAA x.1 x.2.1 x.2.2) (ra_c (e1 := eA) (es := fun (x : PyData × PyData) => [eA x.1, eA x.2]) (re_map (e1 := eI) (e2 := eA) (fun _ => rfl) (re_c (enc := eI) (a := 3))) (ra_c (e1 := eA) (es := fun (x : PyData) => [eA x]) (re_map (e1 := (eL eA)) (e2 := eA) (fun _ => rfl) (re_lst (ral_c (re_map (e1 := eP) (e2 := eA) (fun _ => rfl) (re_var (enc := eP) (fun _ => rfl))) (ral_c (re_var (enc := eA) (fun _ => rfl)) (ral_c (re_map (e1 := eN) (e2 := eA) (fun _ => rfl) (re_c (enc := eN) (a := ()))) (ral_nil (enc := eA))))))) (ra_1 (e1 := eA) (re_map (e1 := eN) (e2 := eA) (fun _ => rfl) (re_c (enc := eN) (a := ())))))) (fun _ => (.r (.t (.t (.t (.t (.t (.t .nil))))))))) (re_tup (enc := (eT3 eS eA eB)) (fun _ => rfl) (ra_c (e1 := eS) (es := fun (x : PyData × Bool) => [eA x.1, eB x.2]) (re_c (enc := eS) (a := ("none" : Str))) (ra_c (e1 := eA) (es := fun (x : Bool) => [eB x]) (re_var (enc := eA) (fun _ => rfl)) (ra_1 (e1 := eB) (re_c (enc := eB) (a := true)))))))) (rt_bool (re_op ot_ne (re_call (enc := eA) (es := fun (x : PyData × PyData × PyData) => [eA x.1, eA x.2.1, eA x.2.2]) (fun x => r__law_told_AAA x.1 x.2.1 x.2.2) (ra_c (e1 := eA) (es := fun (x : PyData × PyData) => [eA x.1, eA x.2]) (re_map (e1 := eI) (e2 := eA) (fun _ => rfl) (re_c (enc := eI) (a := 3))) (ra_c (e1 := eA) (es := fun (x : PyData) => [eA x]) (re_map (e1 := (eTL eP)) (e2 := eA) (fun _ => rfl) (re_op (ot_rep (enc := eP)) (re_map (e1 := (eT1 eP)) (e2 := (eTL eP)) (fun x => by first | rfl | (cases x <;> rfl) | simp) (re_tup (enc := (eT1 eP)) (fun _ => rfl) (ra_1 (e1 := eP) (re_var (enc := eP) (fun _ => rfl))))) (re_c (enc := eI) (a := 200)))) (ra_1 (e1 := eA) (re_map (e1 := eN) (e2 := eA) (fun _ => rfl) (re_c (enc := eN) (a := ())))))) (fun _ => (.r (.t (.t (.t (.t (.t (.t .nil))))))))) (re_c (enc := eS) (a := ("nothing" : Str)))))) ?_ ?_
                · exact rs_ret (re_c (enc := eB) (a := false)) (fun _ => rfl) (fun _ => (.r (.t (.t (.t (.t (.t (.t .nil))))))))
                · exact rs_passT (fun _ => (.r (.r (.r (.r (.r (.r (.r .nil))))))))
              · intro t11
                refine rs_seq (Et := (fun (t12 : Unit) s => ([.is (some (.sc ns)), .is (some (.ow (Src.l s))), .v (eP v2), .v ((eL eA) v3), .v (eA v4), .any, .any] : List Pat))) ?_ ?_
                · refine rs_for (ea := eA) (E1 := (fun s => ([.is (some (.sc ns)), .is (some (.ow (Src.l s))), .v (eP v2), .v ((eL eA) v3), .v (eA v4), .any, .is none] : List Pat))) (I := (fun (t12 : Unit) s => ([.is (some (.sc ns)), .is (some (.ow (Src.l s))), .v (eP v2), .v ((eL eA) v3), .v (eA v4), .any, .any] : List Pat))) (B := (fun (x13 : PyData) (t12 : Unit) s => ([.is (some (.sc ns)), .is (some (.ow (Src.l s))), .v (eP v2), .v ((eL eA) v3), .v (eA v4), .any, .v (eA x13)] : List Pat))) (t0 := ()) (ri_L (enc := eA) (re_lst (ral_c (re_map (e1 := eN) (e2 := eA) (fun _ => rfl) (re_c (enc := eN) (a := ()))) (ral_c (re_map (e1 := eI) (e2 := eA) (fun _ => rfl) (re_c (enc := eI) (a := 7))) (ral_c (re_map (e1 := eS) (e2 := eA) (fun _ => rfl) (re_c (enc := eS) (a := ("v" : Str)))) (ral_c (re_map (e1 := (eTL eP)) (e2 := eA) (fun _ => rfl) (re_op (ot_rep (enc := eP)) (re_map (e1 := (eT1 eP)) (e2 := (eTL eP)) (fun x => by first | rfl | (cases x <;> rfl) | simp) (re_tup (enc := (eT1 eP)) (fun _ => rfl) (ra_1 (e1 := eP) (re_var (enc := eP) (fun _ => rfl))))) (re_c (enc := eI) (a := 201)))) (ral_c (re_dict1 (ra_1 (re_lst (ral_c (re_tup (enc := (eT2 eP eI)) (fun _ => rfl) (ra_c (e1 := eP) (es := fun (x : Int) => [eI x]) (re_var (enc := eP) (fun _ => rfl)) (ra_1 (e1 := eI) (re_c (enc := eI) (a := 1))))) (ral_nil (enc := (eT2 eP eI))))))) (ral_nil (enc := eA))))))))) (fun _ => (.r (.r (.r (.r (.r (.r (.cons pl_no .nil)))))))) (fun x13 t12 => (rg_nm (fun _ => ⟨rfl, rfl⟩) (fun _ => rfl))) ?_
                  intro x13 t12
                  refine rs_if (E1 := (fun s => ([.is (some (.sc ns)), .is (some (.ow (Src.l s))), .v (eP v2), .v ((eL eA) v3), .v (eA v4), .any, .v (eA x13)] : List Pat))) (rt_bool (re_op ot_ne (re_call (enc := eA) (es := fun (x : PyData × PyData × PyData) => [eA x.1, eA x.2.1, eA x.2.2]) (fun x => r__law_told_AAA x.1 x.2.1 x.2.2) (ra_c (e1 := eA) (es := fun (x : PyData × PyData) => [eA x.1, eA x.2]) (re_map (e1 := eI) (e2 := eA) (fun _ => rfl) (re_c (enc := eI) (a := 3))) (ra_c (e1 := eA) (es := fun (x : PyData) => [eA x]) (re_var (enc := eA) (fun _ => rfl)) (ra_1 (e1 := eA) (re_map (e1 := eN) (e2 := eA) (fun _ => rfl) (re_c (enc := eN) (a := ())))))) (fun _ => (.r (.t (.t (.t (.t (.t (.t .nil))))))))) (re_tup (enc := (eT3 eS eN eB)) (fun _ => rfl) (ra_c (e1 := eS) (es := fun (x : Unit × Bool) => [eN x.1, eB x.2]) (re_c (enc := eS) (a := ("none" : Str))) (ra_c (e1 := eN) (es := fun (x : Bool) => [eB x]) (re_c (enc := eN) (a := ())) (ra_1 (e1 := eB) (re_c (enc := eB) (a := true)))))))) ?_ ?_
                  · exact rs_ret (re_c (enc := eB) (a := false)) (fun _ => rfl) (fun _ => (.r (.t (.t (.t (.t (.t (.t .nil))))))))
                  · exact rs_passT (fun _ => (.r (.r (.r (.r (.r (.r (.cons pl_pv .nil))))))))
                · intro t12
                  exact rs_ret (re_callS (l := Src.l) (enc := eB) (es := fun (x : Int) => [eI x]) (.inl fun _ => ⟨rfl, fun _ => rfl⟩) (.inl fun _ => ⟨rfl, fun _ => rfl⟩) (fun x s => r__law_points_right_I x s) (ra_1 (e1 := eI) (re_op ot_sub (re_callS (l := Src.l) (enc := eI) (.inl fun _ => ⟨rfl, fun _ => rfl⟩) (.inl fun _ => ⟨rfl, fun _ => rfl⟩) (es := fun x => [eI x]) (fun x s => take_ok x s) (ra_1 (re_c (enc := eI) (a := 99))) (fun _ => (.r (.t (.t (.t (.t (.t (.t .nil))))))))) (re_c (enc := eI) (a := 49)))) (fun _ => (.r (.t (.t (.t (.t (.t (.t .nil))))))))) (fun _ => rfl) (fun _ => (.r (.t (.t (.t (.t (.t (.t .nil))))))))
noncomputable def M_law (ns : List Int) : QM Src Bool := rRet (mb_law ns)
theorem r_law (ns : List Int) (s : Src) : RF (fun _ => [Sl.sc ns]) eB (M_law ns s) (F_law (Sl.sc ns :: List.map Sl.pv [])) :=
  fn_V (h := (.sc ns)) (n := 7) (vs := []) (ps := [.top, .top, .top, .top, .top, .top]) (qs := [.top, .top, .top, .top, .top, .top]) (rb_law ns) (fun _ => rfl) (fun _ => rfl) (fun _ => rfl) s (by exact (.cons rfl (.cons rfl (.cons rfl (.cons rfl (.cons rfl (.cons rfl (.cons rfl .nil))))))))
noncomputable def mb_is_row_TPII (p_value : (List (Int × Int))) (p_least : Int) (p_most : Int) : QM Unit (Fl Unit Empty Bool) :=
    (rB (rAnd (rM (fun _ => true) (rP p_value)) (rCh oLe oLe (rP p_least) (rM (fun x => ((List.length x : Nat) : Int)) (rP p_value)) (rP p_most))) fun a => rP (.rt a))
noncomputable abbrev cq_is_row_TPII : Cq Unit Empty Bool := ⟨(fun s => ([.top, .top, .top] : List Pat)), (fun l => nomatch l), (fun r => .v (eB r)), (fun s => ([.top, .top, .top] : List Pat))⟩
theorem rb_is_row_TPII (p_value : (List Vc)) (p_least : Int) (p_most : Int) : SS (cq_is_row_TPII) (fun s => ([.v ((eTL eP) p_value), .v (eI p_least), .v (eI p_most)] : List Pat)) (fun (_ : Unit) => (fun s => ([.top, .top, .top] : List Pat))) (mb_is_row_TPII p_value p_least p_most) b_is_row := by
  unfold mb_is_row_TPII b_is_row
  exact rs_ret (re_andV (re_isAny (e1 := (eTL eP)) (fun _ => (by decide +kernel : kitL ["list" , "tuple"] "tuple" = some true)) (re_var (enc := (eTL eP)) (fun _ => rfl))) (re_chain ot_le ot_le (re_var (enc := eI) (fun _ => rfl)) (re_lnT (e := eP) (ra_1 (re_var (enc := (eTL eP)) (fun _ => rfl)))) (re_var (enc := eI) (fun _ => rfl)))) (fun _ => rfl) (fun _ => (.t (.t (.t .nil))))
noncomputable def M_is_row_TPII (p_value : (List (Int × Int))) (p_least : Int) (p_most : Int) : R Unit Bool := rRet (mb_is_row_TPII p_value p_least p_most) ()
theorem r_is_row_TPII (p_value : (List Vc)) (p_least : Int) (p_most : Int) : RF noS eB (M_is_row_TPII p_value p_least p_most) (F_is_row (List.map Sl.pv [(eTL eP) p_value, eI p_least, eI p_most])) :=
  fn_V (h := .no) (n := 3) (vs := [(eTL eP) p_value, eI p_least, eI p_most]) (ps := [.top, .top, .top]) (qs := [.top, .top, .top]) (rb_is_row_TPII p_value p_least p_most) (fun _ => rfl) (fun _ => rfl) (fun _ => rfl) () (by exact (.cons rfl (.cons rfl (.cons rfl .nil))))
noncomputable def mb_is_vector_P (p_value : (Int × Int)) : QM Unit (Fl Unit Empty Bool) :=
    (rB (rAnd (rC (fun (x : (Int × Int)) => M_is_number_pair_P x) (rP p_value)) (r2 oLe (rM (fun p : Int × Int => if p.2 > p.1 then p.2 else p.1) (rT (rM (fun i : Int => if i < 0 then -i else i) (rM (fun p => p.1) (rP p_value))) (rM (fun i : Int => if i < 0 then -i else i) (rM (fun p => p.2) (rP p_value))))) (rP c_VECTOR_MOST))) fun a => rP (.rt a))
noncomputable abbrev cq_is_vector_P : Cq Unit Empty Bool := ⟨(fun s => ([.top] : List Pat)), (fun l => nomatch l), (fun r => .v (eB r)), (fun s => ([.top] : List Pat))⟩
theorem rb_is_vector_P (p_value : Vc) : SS (cq_is_vector_P) (fun s => ([.v (eP p_value)] : List Pat)) (fun (_ : Unit) => (fun s => ([.top] : List Pat))) (mb_is_vector_P p_value) b_is_vector := by
  unfold mb_is_vector_P b_is_vector
  exact rs_ret (re_andV (re_call (enc := eB) (es := fun (x : Vc) => [eP x]) (fun x => r_is_number_pair_P x) (ra_1 (e1 := eP) (re_var (enc := eP) (fun _ => rfl))) (fun _ => (.t .nil))) (re_op ot_le (re_cbM (fun _ => rfl) (ra_c (e1 := eI) (es := fun (x : Int) => [eI x]) (re_cbM (fun _ => rfl) (ra_1 (re_opC (e1 := eP) (e3 := eI) (fun _ => rfl) (re_var (enc := eP) (fun _ => rfl))))) (ra_1 (e1 := eI) (re_cbM (fun _ => rfl) (ra_1 (re_opC (e1 := eP) (e3 := eI) (fun _ => rfl) (re_var (enc := eP) (fun _ => rfl)))))))) (re_c (enc := eI) (a := c_VECTOR_MOST)))) (fun _ => rfl) (fun _ => (.t .nil))
noncomputable def M_is_vector_P (p_value : (Int × Int)) : R Unit Bool := rRet (mb_is_vector_P p_value) ()
theorem r_is_vector_P (p_value : Vc) : RF noS eB (M_is_vector_P p_value) (F_is_vector (List.map Sl.pv [eP p_value])) :=
  fn_V (h := .no) (n := 1) (vs := [eP p_value]) (ps := [.top]) (qs := [.top]) (rb_is_vector_P p_value) (fun _ => rfl) (fun _ => rfl) (fun _ => rfl) () (by exact (.cons rfl .nil))
noncomputable def mb_is_direction_P (p_value : (Int × Int)) : QM Unit (Fl Unit Empty Bool) :=
    (rB (rAnd (rC (fun (x : (Int × Int)) => M_is_vector_P x) (rP p_value)) (r2 (oNe (eT2 eI eI) (eT2 eI eI)) (rP p_value) (rT (rP (0 : Int)) (rP (0 : Int))))) fun a => rP (.rt a))
noncomputable abbrev cq_is_direction_P : Cq Unit Empty Bool := ⟨(fun s => ([.top] : List Pat)), (fun l => nomatch l), (fun r => .v (eB r)), (fun s => ([.top] : List Pat))⟩
theorem rb_is_direction_P (p_value : Vc) : SS (cq_is_direction_P) (fun s => ([.v (eP p_value)] : List Pat)) (fun (_ : Unit) => (fun s => ([.top] : List Pat))) (mb_is_direction_P p_value) b_is_direction := by
  unfold mb_is_direction_P b_is_direction
  exact rs_ret (re_andV (re_call (enc := eB) (es := fun (x : Vc) => [eP x]) (fun x => r_is_vector_P x) (ra_1 (e1 := eP) (re_var (enc := eP) (fun _ => rfl))) (fun _ => (.t .nil))) (re_op ot_ne (re_var (enc := eP) (fun _ => rfl)) (re_tup (enc := eP) (fun _ => rfl) (ra_c (e1 := eI) (es := fun (x : Int) => [eI x]) (re_c (enc := eI) (a := 0)) (ra_1 (e1 := eI) (re_c (enc := eI) (a := 0))))))) (fun _ => rfl) (fun _ => (.t .nil))
noncomputable def M_is_direction_P (p_value : (Int × Int)) : R Unit Bool := rRet (mb_is_direction_P p_value) ()
theorem r_is_direction_P (p_value : Vc) : RF noS eB (M_is_direction_P p_value) (F_is_direction (List.map Sl.pv [eP p_value])) :=
  fn_V (h := .no) (n := 1) (vs := [eP p_value]) (ps := [.top]) (qs := [.top]) (rb_is_direction_P p_value) (fun _ => rfl) (fun _ => rfl) (fun _ => rfl) () (by exact (.cons rfl .nil))
noncomputable def mb_need_direction_P (p_vector : (Int × Int)) : QM Unit (Fl Unit Empty Unit) :=
    (rI (rM not (rC (fun (x : (Int × Int)) => M_is_direction_P x) (rP p_vector))) (rRs "NoVector" "told" (eT2 eI eI) (rP p_vector)) (rP (.nx ())))
noncomputable abbrev cq_need_direction_P : Cq Unit Empty Unit := ⟨(fun s => ([.top] : List Pat)), (fun l => nomatch l), (fun r => .v (eN r)), (fun s => ([.top] : List Pat))⟩
theorem rb_need_direction_P (p_vector : Vc) : SS (cq_need_direction_P) (fun s => ([.v (eP p_vector)] : List Pat)) (fun (_ : Unit) => (fun s => ([.top] : List Pat))) (mb_need_direction_P p_vector) b_need_direction := by
  unfold mb_need_direction_P b_need_direction
  refine rs_if (E1 := (fun s => ([.v (eP p_vector)] : List Pat))) (rt_not (rt_truB (re_call (enc := eB) (es := fun (x : Vc) => [eP x]) (fun x => r_is_direction_P x) (ra_1 (e1 := eP) (re_var (enc := eP) (fun _ => rfl))) (fun _ => (.t .nil))))) ?_ ?_
  · exact rs_raise (re_var (enc := eP) (fun _ => rfl)) (fun _ => (.t .nil))
  · exact rs_passT (fun _ => (.t .nil))
noncomputable def M_need_direction_P (p_vector : (Int × Int)) : R Unit Unit := rRetN () (mb_need_direction_P p_vector) ()
theorem r_need_direction_P (p_vector : Vc) : RF noS eN (M_need_direction_P p_vector) (F_need_direction (List.map Sl.pv [eP p_vector])) :=
  fn_N (h := .no) (n := 1) (vs := [eP p_vector]) (ps := [.top]) (qs := [.top]) (rs := fun _ _ => [.top]) (rb_need_direction_P p_vector) (fun _ => rfl) (fun _ => rfl) (fun _ => rfl) rfl (fun _ _ => rfl) () (by exact (.cons rfl .nil))
noncomputable def mb_is_upper_P (p_vector : (Int × Int)) : QM Unit (Fl Unit Empty Bool) :=
    (rB (rOr (r2 oGt (rM (fun p => p.2) (rP p_vector)) (rP (0 : Int))) (rAnd (r2 (oEq eI eI) (rM (fun p => p.2) (rP p_vector)) (rP (0 : Int))) (r2 oGt (rM (fun p => p.1) (rP p_vector)) (rP (0 : Int))))) fun a => rP (.rt a))
noncomputable abbrev cq_is_upper_P : Cq Unit Empty Bool := ⟨(fun s => ([.top] : List Pat)), (fun l => nomatch l), (fun r => .v (eB r)), (fun s => ([.top] : List Pat))⟩
theorem rb_is_upper_P (p_vector : Vc) : SS (cq_is_upper_P) (fun s => ([.v (eP p_vector)] : List Pat)) (fun (_ : Unit) => (fun s => ([.top] : List Pat))) (mb_is_upper_P p_vector) b_is_upper := by
  unfold mb_is_upper_P b_is_upper
  exact rs_ret (re_orV (re_op ot_gt (re_opC (e1 := eP) (e3 := eI) (fun _ => rfl) (re_var (enc := eP) (fun _ => rfl))) (re_c (enc := eI) (a := 0))) (re_andV (re_op ot_eq (re_opC (e1 := eP) (e3 := eI) (fun _ => rfl) (re_var (enc := eP) (fun _ => rfl))) (re_c (enc := eI) (a := 0))) (re_op ot_gt (re_opC (e1 := eP) (e3 := eI) (fun _ => rfl) (re_var (enc := eP) (fun _ => rfl))) (re_c (enc := eI) (a := 0))))) (fun _ => rfl) (fun _ => (.t .nil))
noncomputable def M_is_upper_P (p_vector : (Int × Int)) : R Unit Bool := rRet (mb_is_upper_P p_vector) ()
theorem r_is_upper_P (p_vector : Vc) : RF noS eB (M_is_upper_P p_vector) (F_is_upper (List.map Sl.pv [eP p_vector])) :=
  fn_V (h := .no) (n := 1) (vs := [eP p_vector]) (ps := [.top]) (qs := [.top]) (rb_is_upper_P p_vector) (fun _ => rfl) (fun _ => rfl) (fun _ => rfl) () (by exact (.cons rfl .nil))
noncomputable def mb_cross_PP (p_one : (Int × Int)) (p_other : (Int × Int)) : QM Unit (Fl Unit Empty Int) :=
    (rB (r2 oSub (r2 oMul (rM (fun p => p.1) (rP p_one)) (rM (fun p => p.2) (rP p_other))) (r2 oMul (rM (fun p => p.2) (rP p_one)) (rM (fun p => p.1) (rP p_other)))) fun a => rP (.rt a))
noncomputable abbrev cq_cross_PP : Cq Unit Empty Int := ⟨(fun s => ([.top, .top] : List Pat)), (fun l => nomatch l), (fun r => .v (eI r)), (fun s => ([.top, .top] : List Pat))⟩
theorem rb_cross_PP (p_one : Vc) (p_other : Vc) : SS (cq_cross_PP) (fun s => ([.v (eP p_one), .v (eP p_other)] : List Pat)) (fun (_ : Unit) => (fun s => ([.top, .top] : List Pat))) (mb_cross_PP p_one p_other) b_cross := by
  unfold mb_cross_PP b_cross
  exact rs_ret (re_op ot_sub (re_op ot_mul (re_opC (e1 := eP) (e3 := eI) (fun _ => rfl) (re_var (enc := eP) (fun _ => rfl))) (re_opC (e1 := eP) (e3 := eI) (fun _ => rfl) (re_var (enc := eP) (fun _ => rfl)))) (re_op ot_mul (re_opC (e1 := eP) (e3 := eI) (fun _ => rfl) (re_var (enc := eP) (fun _ => rfl))) (re_opC (e1 := eP) (e3 := eI) (fun _ => rfl) (re_var (enc := eP) (fun _ => rfl))))) (fun _ => rfl) (fun _ => (.t (.t .nil)))
noncomputable def M_cross_PP (p_one : (Int × Int)) (p_other : (Int × Int)) : R Unit Int := rRet (mb_cross_PP p_one p_other) ()
theorem r_cross_PP (p_one : Vc) (p_other : Vc) : RF noS eI (M_cross_PP p_one p_other) (F_cross (List.map Sl.pv [eP p_one, eP p_other])) :=
  fn_V (h := .no) (n := 2) (vs := [eP p_one, eP p_other]) (ps := [.top, .top]) (qs := [.top, .top]) (rb_cross_PP p_one p_other) (fun _ => rfl) (fun _ => rfl) (fun _ => rfl) () (by exact (.cons rfl (.cons rfl .nil)))
noncomputable def mb_is_slope_ahead_PP (p_one : (Int × Int)) (p_other : (Int × Int)) : QM Unit (Fl Unit Empty Bool) :=
    (rSq (rI (r2 (oNe eB eB) (rC (fun (x : (Int × Int)) => M_is_upper_P x) (rP p_one)) (rC (fun (x : (Int × Int)) => M_is_upper_P x) (rP p_other))) (rB (rC (fun (x : (Int × Int)) => M_is_upper_P x) (rP p_one)) fun a => rP (.rt a)) (rP (.nx ()))) fun (t1 : Unit) =>
    (rB (r2 oGt (rC (fun (x : (Int × Int) × (Int × Int)) => M_cross_PP x.1 x.2) (rT (rP p_one) (rP p_other))) (rP (0 : Int))) fun a => rP (.rt a)))
noncomputable abbrev cq_is_slope_ahead_PP : Cq Unit Empty Bool := ⟨(fun s => ([.top, .top] : List Pat)), (fun l => nomatch l), (fun r => .v (eB r)), (fun s => ([.top, .top] : List Pat))⟩
theorem rb_is_slope_ahead_PP (p_one : Vc) (p_other : Vc) : SS (cq_is_slope_ahead_PP) (fun s => ([.v (eP p_one), .v (eP p_other)] : List Pat)) (fun (_ : Unit) => (fun s => ([.top, .top] : List Pat))) (mb_is_slope_ahead_PP p_one p_other) b_is_slope_ahead := by
  unfold mb_is_slope_ahead_PP b_is_slope_ahead
  refine rs_seq (Et := (fun (t1 : Unit) s => ([.v (eP p_one), .v (eP p_other)] : List Pat))) ?_ ?_
  · refine rs_if (Et := (fun (t1 : Unit) s => ([.v (eP p_one), .v (eP p_other)] : List Pat))) (E1 := (fun s => ([.v (eP p_one), .v (eP p_other)] : List Pat))) (rt_bool (re_op ot_ne (re_call (enc := eB) (es := fun (x : Vc) => [eP x]) (fun x => r_is_upper_P x) (ra_1 (e1 := eP) (re_var (enc := eP) (fun _ => rfl))) (fun _ => (.t (.t .nil)))) (re_call (enc := eB) (es := fun (x : Vc) => [eP x]) (fun x => r_is_upper_P x) (ra_1 (e1 := eP) (re_var (enc := eP) (fun _ => rfl))) (fun _ => (.t (.t .nil)))))) ?_ ?_
    · exact rs_ret (re_call (enc := eB) (es := fun (x : Vc) => [eP x]) (fun x => r_is_upper_P x) (ra_1 (e1 := eP) (re_var (enc := eP) (fun _ => rfl))) (fun _ => (.t (.t .nil)))) (fun _ => rfl) (fun _ => (.t (.t .nil)))
    · exact rs_passT (fun _ => (.r (.r .nil)))
  · intro t1
    exact rs_ret (re_op ot_gt (re_call (enc := eI) (es := fun (x : Vc × Vc) => [eP x.1, eP x.2]) (fun x => r_cross_PP x.1 x.2) (ra_c (e1 := eP) (es := fun (x : Vc) => [eP x]) (re_var (enc := eP) (fun _ => rfl)) (ra_1 (e1 := eP) (re_var (enc := eP) (fun _ => rfl)))) (fun _ => (.t (.t .nil)))) (re_c (enc := eI) (a := 0))) (fun _ => rfl) (fun _ => (.t (.t .nil)))
noncomputable def M_is_slope_ahead_PP (p_one : (Int × Int)) (p_other : (Int × Int)) : R Unit Bool := rRet (mb_is_slope_ahead_PP p_one p_other) ()
theorem r_is_slope_ahead_PP (p_one : Vc) (p_other : Vc) : RF noS eB (M_is_slope_ahead_PP p_one p_other) (F_is_slope_ahead (List.map Sl.pv [eP p_one, eP p_other])) :=
  fn_V (h := .no) (n := 2) (vs := [eP p_one, eP p_other]) (ps := [.top, .top]) (qs := [.top, .top]) (rb_is_slope_ahead_PP p_one p_other) (fun _ => rfl) (fun _ => rfl) (fun _ => rfl) () (by exact (.cons rfl (.cons rfl .nil)))
noncomputable def mb_merged_by_slope_LPLP (p_one : (List (Int × Int))) (p_other : (List (Int × Int))) : QM Unit (Fl Unit Empty (List (Int × Int))) :=
    (rSq (rB (rP []) fun a => rP (.nx a)) fun (v1 : List (Int × Int)) =>
    (rSq (rB (rP (0 : Int)) fun a => rP (.nx a)) fun (v2 : Int) =>
    (rSq (rB (rP p_one) fun xs => rFor (fun (x4 : (Int × Int)) (t3 : (List (Int × Int)) × Int) =>
    (rSq (rWh (fun (t5 : (List (Int × Int)) × Int) => (rAnd (r2 oLt (rP t5.2) (rM (fun x => ((List.length x : Nat) : Int)) (rP p_other))) (rC (fun (x : (Int × Int) × (Int × Int)) => M_is_slope_ahead_PP x.1 x.2) (rT (r2 oAt (rP p_other) (rP t5.2)) (rP x4))))) (fun t5 =>
    (rSq (rAp t5.1 (r2 oAt (rP p_other) (rP t5.2))) fun (l6 : List (Int × Int)) =>
    (rSq (rB (rP (1 : Int)) fun y => rB (rO (oAdd t5.2 y)) fun z => rP (.nx z)) fun (v7 : Int) => rP (.nx (l6, v7))))) (t3.1, t3.2)) fun (t5 : (List (Int × Int)) × Int) =>
    (rSq (rAp t5.1 (rP x4)) fun (l8 : List (Int × Int)) => rP (.nx (l8, t5.2))))) xs (v1, v2)) fun (t3 : (List (Int × Int)) × Int) =>
    (rSq (rB (rSl (rP p_other) (rM some (rP t3.2)) (rP none)) fun z => rB (rO (oExt t3.1 z)) fun ys => rP (.nx ys)) fun (l9 : List (Int × Int)) =>
    (rB (rP l9) fun a => rP (.rt a))))))
noncomputable abbrev cq_merged_by_slope_LPLP : Cq Unit Empty (List (Int × Int)) := ⟨(fun s => ([.top, .top, .top, .top, .top] : List Pat)), (fun l => nomatch l), (fun r => .v ((eL (eT2 eI eI)) r)), (fun s => ([.top, .top, .top, .top, .top] : List Pat))⟩
theorem rb_merged_by_slope_LPLP (p_one : (List Vc)) (p_other : (List Vc)) : SS (cq_merged_by_slope_LPLP) (fun s => ([.v ((eL eP) p_one), .v ((eL eP) p_other), .is none, .is none, .is none] : List Pat)) (fun (_ : Unit) => (fun s => ([.top, .top, .top, .top, .top] : List Pat))) (mb_merged_by_slope_LPLP p_one p_other) b_merged_by_slope := by
  unfold mb_merged_by_slope_LPLP b_merged_by_slope
  refine rs_seq (Et := (fun (v1 : List Vc) s => ([.v ((eL eP) p_one), .v ((eL eP) p_other), .is (some (.ow (List.map eP v1))), .is none, .is none] : List Pat))) ?_ ?_
  · exact rs_asgO (enc := List.map eP) (Ea := (fun v1 s => ([.v ((eL eP) p_one), .v ((eL eP) p_other), .is (some (.ow (List.map eP v1))), .is none, .is none] : List Pat))) (rf_lst (ral_nil (enc := eP))) (fun _ => ro_nm (fun _ => ⟨rfl, rfl⟩) (fun _ => rfl))
  · intro v1
    refine rs_seq (Et := (fun (v2 : Int) s => ([.v ((eL eP) p_one), .v ((eL eP) p_other), .is (some (.ow (List.map eP v1))), .v (eI v2), .is none] : List Pat))) ?_ ?_
    · exact rs_asg (enc := eI) (Ea := (fun v2 s => ([.v ((eL eP) p_one), .v ((eL eP) p_other), .is (some (.ow (List.map eP v1))), .v (eI v2), .is none] : List Pat))) (re_c (enc := eI) (a := 0)) (fun v2 => (rg_nm (fun _ => ⟨rfl, rfl⟩) (fun _ => rfl)))
    · intro v2
      refine rs_seq (Et := (fun (t3 : (List Vc) × Int) s => ([.v ((eL eP) p_one), .v ((eL eP) p_other), .is (some (.ow (List.map eP t3.1))), .v (eI t3.2), .any] : List Pat))) ?_ ?_
      · refine rs_for (ea := eP) (E1 := (fun s => ([.v ((eL eP) p_one), .v ((eL eP) p_other), .is (some (.ow (List.map eP v1))), .v (eI v2), .is none] : List Pat))) (I := (fun (t3 : (List Vc) × Int) s => ([.v ((eL eP) p_one), .v ((eL eP) p_other), .is (some (.ow (List.map eP t3.1))), .v (eI t3.2), .any] : List Pat))) (B := (fun (x4 : Vc) (t3 : (List Vc) × Int) s => ([.v ((eL eP) p_one), .v ((eL eP) p_other), .is (some (.ow (List.map eP t3.1))), .v (eI t3.2), .v (eP x4)] : List Pat))) (t0 := (v1, v2)) (ri_SL (enc := eP) (re_var (enc := (eL eP)) (fun _ => rfl))) (fun _ => (.r (.r (.r (.r (.cons pl_no .nil)))))) (fun x4 t3 => (rg_nm (fun _ => ⟨rfl, rfl⟩) (fun _ => rfl))) ?_
        intro x4 t3
        refine rs_seq (Et := (fun (t5 : (List Vc) × Int) s => ([.v ((eL eP) p_one), .v ((eL eP) p_other), .is (some (.ow (List.map eP t5.1))), .v (eI t5.2), .v (eP x4)] : List Pat))) ?_ ?_
        · refine rs_while (I := (fun (t5 : (List Vc) × Int) s => ([.v ((eL eP) p_one), .v ((eL eP) p_other), .is (some (.ow (List.map eP t5.1))), .v (eI t5.2), .v (eP x4)] : List Pat))) (t0 := (t3.1, t3.2)) (fun _ => (.r (.r (.r (.r (.r .nil)))))) (fun t5 => (rt_and (rt_bool (re_op ot_lt (re_var (enc := eI) (fun _ => rfl)) (re_lnL (e := eP) (ra_1 (re_var (enc := (eL eP)) (fun _ => rfl)))))) (rt_truB (re_call (enc := eB) (es := fun (x : Vc × Vc) => [eP x.1, eP x.2]) (fun x => r_is_slope_ahead_PP x.1 x.2) (ra_c (e1 := eP) (es := fun (x : Vc) => [eP x]) (re_op (ot_ixL (e := eP)) (re_var (enc := (eL eP)) (fun _ => rfl)) (re_var (enc := eI) (fun _ => rfl))) (ra_1 (e1 := eP) (re_var (enc := eP) (fun _ => rfl)))) (fun _ => (.t (.t (.t (.t (.t .nil)))))))))) ?_
          intro t5
          refine rs_seq (Et := (fun (l6 : List Vc) s => ([.v ((eL eP) p_one), .v ((eL eP) p_other), .is (some (.ow (List.map eP l6))), .v (eI t5.2), .v (eP x4)] : List Pat))) ?_ ?_
          · exact rs_append (enc := eP) (Ea := (fun l6 s => ([.v ((eL eP) p_one), .v ((eL eP) p_other), .is (some (.ow (List.map eP l6))), .v (eI t5.2), .v (eP x4)] : List Pat))) (fun _ => rfl) (re_op (ot_ixL (e := eP)) (re_var (enc := (eL eP)) (fun _ => rfl)) (re_var (enc := eI) (fun _ => rfl))) (fun _ => rfl) (fun _ _ => rfl)
          · intro l6
            refine rs_cv (Et := (fun (v7 : Int) s => ([.v ((eL eP) p_one), .v ((eL eP) p_other), .is (some (.ow (List.map eP l6))), .v (eI v7), .v (eP x4)] : List Pat))) (fun (v7 : Int) => (l6, v7)) ?_ (fun v7 => (fun _ => (.r (.r (.r (.r (.r .nil)))))))
            exact rs_aug (Ea := (fun v7 s => ([.v ((eL eP) p_one), .v ((eL eP) p_other), .is (some (.ow (List.map eP l6))), .v (eI v7), .v (eP x4)] : List Pat))) (x := t5.2) ot_addI (fun _ => rfl) (re_c (enc := eI) (a := 1)) (fun _ => rg_nm (fun _ => ⟨rfl, rfl⟩) (fun _ => rfl))
        · intro t5
          refine rs_cv (Et := (fun (l8 : List Vc) s => ([.v ((eL eP) p_one), .v ((eL eP) p_other), .is (some (.ow (List.map eP l8))), .v (eI t5.2), .v (eP x4)] : List Pat))) (fun (l8 : List Vc) => (l8, t5.2)) ?_ (fun l8 => (fun _ => (.r (.r (.r (.r (.cons pl_pv .nil)))))))
          exact rs_append (enc := eP) (Ea := (fun l8 s => ([.v ((eL eP) p_one), .v ((eL eP) p_other), .is (some (.ow (List.map eP l8))), .v (eI t5.2), .v (eP x4)] : List Pat))) (fun _ => rfl) (re_var (enc := eP) (fun _ => rfl)) (fun _ => rfl) (fun _ _ => rfl)
      · intro t3
        refine rs_seq (Et := (fun (l9 : List Vc) s => ([.v ((eL eP) p_one), .v ((eL eP) p_other), .is (some (.ow (List.map eP l9))), .v (eI t3.2), .any] : List Pat))) ?_ ?_
        · exact rs_meth (enc := eP) (Ea := (fun l9 s => ([.v ((eL eP) p_one), .v ((eL eP) p_other), .is (some (.ow (List.map eP l9))), .v (eI t3.2), .any] : List Pat))) mg_extK (fun _ => rfl) (ra_1 (re_slL (enc := eP) (re_var (enc := (eL eP)) (fun _ => rfl)) (rop_of (re_var (enc := eI) (fun _ => rfl))) rop_no)) (fun _ => rfl) (fun _ _ => rfl)
        · intro l9
          exact rs_ret (re_varO (enc := eP) (fun _ => rfl) (fun _ => rfl)) (fun _ => rfl) (fun _ => (.t (.t (.t (.t (.t .nil))))))
noncomputable def M_merged_by_slope_LPLP (p_one : (List (Int × Int))) (p_other : (List (Int × Int))) : R Unit (List (Int × Int)) := rRet (mb_merged_by_slope_LPLP p_one p_other) ()
theorem r_merged_by_slope_LPLP (p_one : (List Vc)) (p_other : (List Vc)) : RF noS (eL eP) (M_merged_by_slope_LPLP p_one p_other) (F_merged_by_slope (List.map Sl.pv [(eL eP) p_one, (eL eP) p_other])) :=
  fn_V (h := .no) (n := 5) (vs := [(eL eP) p_one, (eL eP) p_other]) (ps := [.top, .top, .top, .top, .top]) (qs := [.top, .top, .top, .top, .top]) (rb_merged_by_slope_LPLP p_one p_other) (fun _ => rfl) (fun _ => rfl) (fun _ => rfl) () (by exact (.cons rfl (.cons rfl (.cons rfl (.cons rfl (.cons rfl .nil))))))
noncomputable def mb_sorted_by_slope_TP (M_sorted_by_slope_TP : (List (Int × Int)) → R Unit (List (Int × Int))) (p_vectors : (List (Int × Int))) : QM Unit (Fl Unit Empty (List (Int × Int))) :=
    (rSq (rI (r2 oLt (rM (fun x => ((List.length x : Nat) : Int)) (rP p_vectors)) (rP (2 : Int))) (rB (rP p_vectors) fun a => rP (.rt a)) (rP (.nx ()))) fun (t1 : Unit) =>
    (rSq (rB (r2 oDiv (rM (fun x => ((List.length x : Nat) : Int)) (rP p_vectors)) (rP (2 : Int))) fun a => rP (.nx a)) fun (v2 : Int) =>
    (rB (rC (fun (x : (List (Int × Int)) × (List (Int × Int))) => M_merged_by_slope_LPLP x.1 x.2) (rT (rC (fun (x : (List (Int × Int))) => M_sorted_by_slope_TP x) (rSl (rP p_vectors) (rP none) (rM some (rP v2)))) (rC (fun (x : (List (Int × Int))) => M_sorted_by_slope_TP x) (rSl (rP p_vectors) (rM some (rP v2)) (rP none))))) fun a => rP (.rt a))))
noncomputable abbrev cq_sorted_by_slope_TP : Cq Unit Empty (List (Int × Int)) := ⟨(fun s => ([.top, .top] : List Pat)), (fun l => nomatch l), (fun r => .v ((eL (eT2 eI eI)) r)), (fun s => ([.top, .top] : List Pat))⟩
theorem rb_sorted_by_slope_TP (M_sorted_by_slope_TP : (List Vc) → R Unit (List Vc)) (F_sorted_by_slope : Fn) (r_sorted_by_slope_TP : ∀ (p_vectors : (List Vc)), RF noS (eL eP) (M_sorted_by_slope_TP p_vectors) (F_sorted_by_slope (List.map Sl.pv [(eTL eP) p_vectors]))) (p_vectors : (List Vc)) : SS (cq_sorted_by_slope_TP) (fun s => ([.v ((eTL eP) p_vectors), .is none] : List Pat)) (fun (_ : Unit) => (fun s => ([.top, .top] : List Pat))) (mb_sorted_by_slope_TP M_sorted_by_slope_TP p_vectors) (b_sorted_by_slope F_sorted_by_slope) := by
  unfold mb_sorted_by_slope_TP b_sorted_by_slope
  refine rs_seq (Et := (fun (t1 : Unit) s => ([.v ((eTL eP) p_vectors), .is none] : List Pat))) ?_ ?_
  · refine rs_if (Et := (fun (t1 : Unit) s => ([.v ((eTL eP) p_vectors), .is none] : List Pat))) (E1 := (fun s => ([.v ((eTL eP) p_vectors), .is none] : List Pat))) (rt_bool (re_op ot_lt (re_lnT (e := eP) (ra_1 (re_var (enc := (eTL eP)) (fun _ => rfl)))) (re_c (enc := eI) (a := 2)))) ?_ ?_
    · exact rs_ret (re_ofF (enc := eP) (rf_listT (enc := eP) (ra_1 (re_var (enc := (eTL eP)) (fun _ => rfl))))) (fun _ => rfl) (fun _ => (.t (.t .nil)))
    · exact rs_passT (fun _ => (.r (.r .nil)))
  · intro t1
    refine rs_seq (Et := (fun (v2 : Int) s => ([.v ((eTL eP) p_vectors), .v (eI v2)] : List Pat))) ?_ ?_
    · exact rs_asg (enc := eI) (Ea := (fun v2 s => ([.v ((eTL eP) p_vectors), .v (eI v2)] : List Pat))) (re_op ot_div (re_lnT (e := eP) (ra_1 (re_var (enc := (eTL eP)) (fun _ => rfl)))) (re_c (enc := eI) (a := 2))) (fun v2 => (rg_nm (fun _ => ⟨rfl, rfl⟩) (fun _ => rfl)))
    · intro v2
      exact rs_ret (re_call (enc := (eL eP)) (es := fun (x : (List Vc) × (List Vc)) => [(eL eP) x.1, (eL eP) x.2]) (fun x => r_merged_by_slope_LPLP x.1 x.2) (ra_c (e1 := (eL eP)) (es := fun (x : (List Vc)) => [(eL eP) x]) (re_call (enc := (eL eP)) (es := fun (x : (List Vc)) => [(eTL eP) x]) (fun x => r_sorted_by_slope_TP x) (ra_1 (e1 := (eTL eP)) (re_slT (enc := eP) (re_var (enc := (eTL eP)) (fun _ => rfl)) rop_no (rop_of (re_var (enc := eI) (fun _ => rfl))))) (fun _ => (.t (.t .nil)))) (ra_1 (e1 := (eL eP)) (re_call (enc := (eL eP)) (es := fun (x : (List Vc)) => [(eTL eP) x]) (fun x => r_sorted_by_slope_TP x) (ra_1 (e1 := (eTL eP)) (re_slT (enc := eP) (re_var (enc := (eTL eP)) (fun _ => rfl)) (rop_of (re_var (enc := eI) (fun _ => rfl))) rop_no)) (fun _ => (.t (.t .nil)))))) (fun _ => (.t (.t .nil)))) (fun _ => rfl) (fun _ => (.t (.t .nil)))
noncomputable def Mr_sorted_by_slope_TP : Nat → (List (Int × Int)) → R Unit (List (Int × Int))
  | 0 => fun _ => .stuck
  | n + 1 => fun p_vectors => rRet (mb_sorted_by_slope_TP (Mr_sorted_by_slope_TP n) p_vectors) ()
theorem rr_sorted_by_slope_TP : ∀ (n : Nat) (p_vectors : (List (Int × Int))), RF noS (eL (eT2 eI eI)) (Mr_sorted_by_slope_TP n p_vectors) (Fr_sorted_by_slope n (List.map Sl.pv [(eTL (eT2 eI eI)) p_vectors]))
  | 0, _ => trivial
  | n + 1, p_vectors => fn_V (h := .no) (n := 2) (vs := [(eTL (eT2 eI eI)) p_vectors]) (ps := [.top, .top]) (qs := [.top, .top]) (rb_sorted_by_slope_TP (Mr_sorted_by_slope_TP n) (Fr_sorted_by_slope n) (fun p_vectors => rr_sorted_by_slope_TP n p_vectors) p_vectors) (fun _ => rfl) (fun _ => rfl) (fun _ => rfl) () (by exact (.cons rfl (.cons rfl .nil)))
noncomputable def M_sorted_by_slope_TP (p_vectors : (List (Int × Int))) : R Unit (List (Int × Int)) := Mr_sorted_by_slope_TP 12 p_vectors
theorem r_sorted_by_slope_TP (p_vectors : (List Vc)) : RF noS (eL eP) (M_sorted_by_slope_TP p_vectors) (F_sorted_by_slope (List.map Sl.pv [(eTL eP) p_vectors])) := rr_sorted_by_slope_TP 12 p_vectors
noncomputable def mb_in_slopes_TP (p_vectors : (List (Int × Int))) : QM Unit (Fl Unit Empty (List (Int × Int))) :=
    (rSq (rI (rM not (rC (fun (x : (List (Int × Int)) × Int × Int) => M_is_row_TPII x.1 x.2.1 x.2.2) (rT (rP p_vectors) (rT (rP (0 : Int)) (rP c_VECTORS_MOST))))) (rRs "NoVector" "told" eN (rP ())) (rP (.nx ()))) fun (t1 : Unit) =>
    (rSq (rB (rP p_vectors) fun xs => rFor (fun (x3 : (Int × Int)) (t2 : Unit) =>
    (rSq (rB (rC (fun (x : (Int × Int)) => M_need_direction_P x) (rP x3)) fun _ => rP (.nx ())) fun (_ : Unit) => rP (.nx ()))) xs ()) fun (t2 : Unit) =>
    (rB (rC (fun (x : (List (Int × Int))) => M_sorted_by_slope_TP x) (rP p_vectors)) fun a => rP (.rt a))))
noncomputable abbrev cq_in_slopes_TP : Cq Unit Empty (List (Int × Int)) := ⟨(fun s => ([.top, .top] : List Pat)), (fun l => nomatch l), (fun r => .v ((eTL (eT2 eI eI)) r)), (fun s => ([.top, .top] : List Pat))⟩
theorem rb_in_slopes_TP (p_vectors : (List Vc)) : SS (cq_in_slopes_TP) (fun s => ([.v ((eTL eP) p_vectors), .is none] : List Pat)) (fun (_ : Unit) => (fun s => ([.top, .top] : List Pat))) (mb_in_slopes_TP p_vectors) b_in_slopes := by
  unfold mb_in_slopes_TP b_in_slopes
  refine rs_seq (Et := (fun (t1 : Unit) s => ([.v ((eTL eP) p_vectors), .is none] : List Pat))) ?_ ?_
  · refine rs_if (Et := (fun (t1 : Unit) s => ([.v ((eTL eP) p_vectors), .is none] : List Pat))) (E1 := (fun s => ([.v ((eTL eP) p_vectors), .is none] : List Pat))) (rt_not (rt_truB (re_call (enc := eB) (es := fun (x : (List Vc) × Int × Int) => [(eTL eP) x.1, eI x.2.1, eI x.2.2]) (fun x => r_is_row_TPII x.1 x.2.1 x.2.2) (ra_c (e1 := (eTL eP)) (es := fun (x : Int × Int) => [eI x.1, eI x.2]) (re_var (enc := (eTL eP)) (fun _ => rfl)) (ra_c (e1 := eI) (es := fun (x : Int) => [eI x]) (re_c (enc := eI) (a := 0)) (ra_1 (e1 := eI) (re_c (enc := eI) (a := c_VECTORS_MOST))))) (fun _ => (.t (.t .nil)))))) ?_ ?_
    · exact rs_raise (re_c (enc := eN) (a := ())) (fun _ => (.t (.t .nil)))
    · exact rs_passT (fun _ => (.r (.r .nil)))
  · intro t1
    refine rs_seq (Et := (fun (t2 : Unit) s => ([.v ((eTL eP) p_vectors), .any] : List Pat))) ?_ ?_
    · refine rs_for (ea := eP) (E1 := (fun s => ([.v ((eTL eP) p_vectors), .is none] : List Pat))) (I := (fun (t2 : Unit) s => ([.v ((eTL eP) p_vectors), .any] : List Pat))) (B := (fun (x3 : Vc) (t2 : Unit) s => ([.v ((eTL eP) p_vectors), .v (eP x3)] : List Pat))) (t0 := ()) (ri_ST (enc := eP) (re_var (enc := (eTL eP)) (fun _ => rfl))) (fun _ => (.r (.cons pl_no .nil))) (fun x3 t2 => (rg_nm (fun _ => ⟨rfl, rfl⟩) (fun _ => rfl))) ?_
      intro x3 t2
      refine rs_cv (Et := (fun (_ : Unit) s => ([.v ((eTL eP) p_vectors), .v (eP x3)] : List Pat))) (fun (_ : Unit) => ()) ?_ (fun _ => (fun _ => (.r (.cons pl_pv .nil))))
      exact rs_expr (re_call (enc := eN) (es := fun (x : Vc) => [eP x]) (fun x => r_need_direction_P x) (ra_1 (e1 := eP) (re_var (enc := eP) (fun _ => rfl))) (fun _ => (.t (.t .nil))))
    · intro t2
      exact rs_ret (re_tuple (enc := eP) (re_call (enc := (eL eP)) (es := fun (x : (List Vc)) => [(eTL eP) x]) (fun x => r_sorted_by_slope_TP x) (ra_1 (e1 := (eTL eP)) (re_var (enc := (eTL eP)) (fun _ => rfl))) (fun _ => (.t (.t .nil))))) (fun _ => rfl) (fun _ => (.t (.t .nil)))
noncomputable def M_in_slopes_TP (p_vectors : (List (Int × Int))) : R Unit (List (Int × Int)) := rRet (mb_in_slopes_TP p_vectors) ()
theorem r_in_slopes_TP (p_vectors : (List Vc)) : RF noS (eTL eP) (M_in_slopes_TP p_vectors) (F_in_slopes (List.map Sl.pv [(eTL eP) p_vectors])) :=
  fn_V (h := .no) (n := 2) (vs := [(eTL eP) p_vectors]) (ps := [.top, .top]) (qs := [.top, .top]) (rb_in_slopes_TP p_vectors) (fun _ => rfl) (fun _ => rfl) (fun _ => rfl) () (by exact (.cons rfl (.cons rfl .nil)))
noncomputable def mb_is_row_LPII (p_value : (List (Int × Int))) (p_least : Int) (p_most : Int) : QM Unit (Fl Unit Empty Bool) :=
    (rB (rAnd (rM (fun _ => true) (rP p_value)) (rCh oLe oLe (rP p_least) (rM (fun x => ((List.length x : Nat) : Int)) (rP p_value)) (rP p_most))) fun a => rP (.rt a))
noncomputable def M_is_row_LPII (p_value : (List (Int × Int))) (p_least : Int) (p_most : Int) : R Unit Bool := rRet (mb_is_row_LPII p_value p_least p_most) ()
noncomputable def mb_sorted_by_slope_LP (M_sorted_by_slope_LP : (List (Int × Int)) → R Unit (List (Int × Int))) (p_vectors : (List (Int × Int))) : QM Unit (Fl Unit Empty (List (Int × Int))) :=
    (rSq (rI (r2 oLt (rM (fun x => ((List.length x : Nat) : Int)) (rP p_vectors)) (rP (2 : Int))) (rB (rP p_vectors) fun a => rP (.rt a)) (rP (.nx ()))) fun (t1 : Unit) =>
    (rSq (rB (r2 oDiv (rM (fun x => ((List.length x : Nat) : Int)) (rP p_vectors)) (rP (2 : Int))) fun a => rP (.nx a)) fun (v2 : Int) =>
    (rB (rC (fun (x : (List (Int × Int)) × (List (Int × Int))) => M_merged_by_slope_LPLP x.1 x.2) (rT (rC (fun (x : (List (Int × Int))) => M_sorted_by_slope_LP x) (rSl (rP p_vectors) (rP none) (rM some (rP v2)))) (rC (fun (x : (List (Int × Int))) => M_sorted_by_slope_LP x) (rSl (rP p_vectors) (rM some (rP v2)) (rP none))))) fun a => rP (.rt a))))
noncomputable def Mr_sorted_by_slope_LP : Nat → (List (Int × Int)) → R Unit (List (Int × Int))
  | 0 => fun _ => .stuck
  | n + 1 => fun p_vectors => rRet (mb_sorted_by_slope_LP (Mr_sorted_by_slope_LP n) p_vectors) ()
noncomputable def M_sorted_by_slope_LP (p_vectors : (List (Int × Int))) : R Unit (List (Int × Int)) := Mr_sorted_by_slope_LP 12 p_vectors
noncomputable def mb_in_slopes_LP (p_vectors : (List (Int × Int))) : QM Unit (Fl Unit Empty (List (Int × Int))) :=
    (rSq (rI (rM not (rC (fun (x : (List (Int × Int)) × Int × Int) => M_is_row_LPII x.1 x.2.1 x.2.2) (rT (rP p_vectors) (rT (rP (0 : Int)) (rP c_VECTORS_MOST))))) (rRs "NoVector" "told" eN (rP ())) (rP (.nx ()))) fun (t1 : Unit) =>
    (rSq (rB (rP p_vectors) fun xs => rFor (fun (x3 : (Int × Int)) (t2 : Unit) =>
    (rSq (rB (rC (fun (x : (Int × Int)) => M_need_direction_P x) (rP x3)) fun _ => rP (.nx ())) fun (_ : Unit) => rP (.nx ()))) xs ()) fun (t2 : Unit) =>
    (rB (rC (fun (x : (List (Int × Int))) => M_sorted_by_slope_LP x) (rP p_vectors)) fun a => rP (.rt a))))
noncomputable def M_in_slopes_LP (p_vectors : (List (Int × Int))) : R Unit (List (Int × Int)) := rRet (mb_in_slopes_LP p_vectors) ()
noncomputable def mb_dot_PP (p_one : (Int × Int)) (p_other : (Int × Int)) : QM Unit (Fl Unit Empty Int) :=
    (rB (r2 oAdd (r2 oMul (rM (fun p => p.1) (rP p_one)) (rM (fun p => p.1) (rP p_other))) (r2 oMul (rM (fun p => p.2) (rP p_one)) (rM (fun p => p.2) (rP p_other)))) fun a => rP (.rt a))
noncomputable abbrev cq_dot_PP : Cq Unit Empty Int := ⟨(fun s => ([.top, .top] : List Pat)), (fun l => nomatch l), (fun r => .v (eI r)), (fun s => ([.top, .top] : List Pat))⟩
theorem rb_dot_PP (p_one : Vc) (p_other : Vc) : SS (cq_dot_PP) (fun s => ([.v (eP p_one), .v (eP p_other)] : List Pat)) (fun (_ : Unit) => (fun s => ([.top, .top] : List Pat))) (mb_dot_PP p_one p_other) b_dot := by
  unfold mb_dot_PP b_dot
  exact rs_ret (re_op ot_add (re_op ot_mul (re_opC (e1 := eP) (e3 := eI) (fun _ => rfl) (re_var (enc := eP) (fun _ => rfl))) (re_opC (e1 := eP) (e3 := eI) (fun _ => rfl) (re_var (enc := eP) (fun _ => rfl)))) (re_op ot_mul (re_opC (e1 := eP) (e3 := eI) (fun _ => rfl) (re_var (enc := eP) (fun _ => rfl))) (re_opC (e1 := eP) (e3 := eI) (fun _ => rfl) (re_var (enc := eP) (fun _ => rfl))))) (fun _ => rfl) (fun _ => (.t (.t .nil)))
noncomputable def M_dot_PP (p_one : (Int × Int)) (p_other : (Int × Int)) : R Unit Int := rRet (mb_dot_PP p_one p_other) ()
theorem r_dot_PP (p_one : Vc) (p_other : Vc) : RF noS eI (M_dot_PP p_one p_other) (F_dot (List.map Sl.pv [eP p_one, eP p_other])) :=
  fn_V (h := .no) (n := 2) (vs := [eP p_one, eP p_other]) (ps := [.top, .top]) (qs := [.top, .top]) (rb_dot_PP p_one p_other) (fun _ => rfl) (fun _ => rfl) (fun _ => rfl) () (by exact (.cons rfl (.cons rfl .nil)))
noncomputable def mb_is_slope_alike_PP (p_one : (Int × Int)) (p_other : (Int × Int)) : QM Unit (Fl Unit Empty Bool) :=
    (rB (rAnd (r2 (oEq eI eI) (rC (fun (x : (Int × Int) × (Int × Int)) => M_cross_PP x.1 x.2) (rT (rP p_one) (rP p_other))) (rP (0 : Int))) (r2 oGt (rC (fun (x : (Int × Int) × (Int × Int)) => M_dot_PP x.1 x.2) (rT (rP p_one) (rP p_other))) (rP (0 : Int)))) fun a => rP (.rt a))
noncomputable abbrev cq_is_slope_alike_PP : Cq Unit Empty Bool := ⟨(fun s => ([.top, .top] : List Pat)), (fun l => nomatch l), (fun r => .v (eB r)), (fun s => ([.top, .top] : List Pat))⟩
theorem rb_is_slope_alike_PP (p_one : Vc) (p_other : Vc) : SS (cq_is_slope_alike_PP) (fun s => ([.v (eP p_one), .v (eP p_other)] : List Pat)) (fun (_ : Unit) => (fun s => ([.top, .top] : List Pat))) (mb_is_slope_alike_PP p_one p_other) b_is_slope_alike := by
  unfold mb_is_slope_alike_PP b_is_slope_alike
  exact rs_ret (re_andV (re_op ot_eq (re_call (enc := eI) (es := fun (x : Vc × Vc) => [eP x.1, eP x.2]) (fun x => r_cross_PP x.1 x.2) (ra_c (e1 := eP) (es := fun (x : Vc) => [eP x]) (re_var (enc := eP) (fun _ => rfl)) (ra_1 (e1 := eP) (re_var (enc := eP) (fun _ => rfl)))) (fun _ => (.t (.t .nil)))) (re_c (enc := eI) (a := 0))) (re_op ot_gt (re_call (enc := eI) (es := fun (x : Vc × Vc) => [eP x.1, eP x.2]) (fun x => r_dot_PP x.1 x.2) (ra_c (e1 := eP) (es := fun (x : Vc) => [eP x]) (re_var (enc := eP) (fun _ => rfl)) (ra_1 (e1 := eP) (re_var (enc := eP) (fun _ => rfl)))) (fun _ => (.t (.t .nil)))) (re_c (enc := eI) (a := 0)))) (fun _ => rfl) (fun _ => (.t (.t .nil)))
noncomputable def M_is_slope_alike_PP (p_one : (Int × Int)) (p_other : (Int × Int)) : R Unit Bool := rRet (mb_is_slope_alike_PP p_one p_other) ()
theorem r_is_slope_alike_PP (p_one : Vc) (p_other : Vc) : RF noS eB (M_is_slope_alike_PP p_one p_other) (F_is_slope_alike (List.map Sl.pv [eP p_one, eP p_other])) :=
  fn_V (h := .no) (n := 2) (vs := [eP p_one, eP p_other]) (ps := [.top, .top]) (qs := [.top, .top]) (rb_is_slope_alike_PP p_one p_other) (fun _ => rfl) (fun _ => rfl) (fun _ => rfl) () (by exact (.cons rfl (.cons rfl .nil)))
end Lw

namespace Lw
open PySem PySem.Spec PyProof.Rows L2 TL
theorem upper_M (p : Pt) : M_is_upper_P p = .ok (upB p.1 p.2) () := by
  unfold M_is_upper_P mb_is_upper_P upB
  by_cases h1 : 0 < p.2
  · simp [h1]
  · by_cases h2 : p.2 = 0
    · simp [h1, h2]
    · simp [h1, h2]
theorem cross_M (p q : Pt) (hp : SzP 300 p) (hq : SzP 300 q) : M_cross_PP p q = .ok (p.1 * q.2 - p.2 * q.1) () := by
  unfold M_cross_PP mb_cross_PP
  simp [oMul_sz hp.1 hq.2, oMul_sz hp.2 hq.1]
theorem ahead_M (p q : Pt) (hp : SzP 300 p) (hq : SzP 300 q) : M_is_slope_ahead_PP p q = .ok (aheadB p.1 p.2 q.1 q.2) () := by
  unfold M_is_slope_ahead_PP mb_is_slope_ahead_PP aheadB
  by_cases hu : upB p.1 p.2 = upB q.1 q.2
  · simp [upper_M, cross_M p q hp hq, hu]
  · simp [upper_M, cross_M p q hp hq, hu]
end Lw

namespace Lw
open PySem PySem.Spec PyProof.Rows L2 TL
def tn (p q : Pt) : Int := turn p.1 p.2 q.1 q.2
def Dir (p : Pt) : Prop := SzP 300 p ∧ ¬ (p.1 = 0 ∧ p.2 = 0)
def ltv (p q : Pt) : Bool := aheadB p.1 p.2 q.1 q.2
theorem tn_lt {p q : Pt} (hp : Dir p) (hq : Dir q) : (tn p q < 0 ↔ ltv p q = true) ∧ (tn p q = 0 ↔ alikeB p.1 p.2 q.1 q.2 = true) := turn_spec _ _ _ _ hp.2 hq.2
theorem qs_pos {p : Pt} (hp : Dir p) : 0 < qs p.1 p.2 := by
  rcases quart p.1 p.2 hp.2 with ⟨h1, h2, _, _, h5, _⟩ | ⟨h1, h2, _, _, h5, _⟩ | ⟨h1, h2, _, _, h5, _⟩ | ⟨h1, h2, _, _, h5, _⟩ <;> rw [h5] <;> omega
theorem tn_neg (p q : Pt) : tn p q < 0 ↔ qn p.1 p.2 < qn q.1 q.2 ∨ (qn p.1 p.2 = qn q.1 q.2 ∧ qf p.1 p.2 * qs q.1 q.2 < qf q.1 q.2 * qs p.1 p.2) := by
  unfold tn turn
  split
  · rename_i h
    rw [(sgn_neg _).1]
    omega
  · split <;> omega
theorem tn_pos (p q : Pt) : 0 < tn p q ↔ qn q.1 q.2 < qn p.1 p.2 ∨ (qn p.1 p.2 = qn q.1 q.2 ∧ qf q.1 q.2 * qs p.1 p.2 < qf p.1 p.2 * qs q.1 q.2) := by
  unfold tn turn sgn
  by_cases h : qn p.1 p.2 = qn q.1 q.2
  · rw [if_pos h]
    split <;> split <;> omega
  · rw [if_neg h]
    by_cases h2 : qn p.1 p.2 < qn q.1 q.2
    · rw [if_pos h2]
      omega
    · rw [if_neg h2]
      omega
theorem tn_anti (p q : Pt) : tn p q < 0 ↔ 0 < tn q p := by
  rw [tn_neg, tn_pos]
  omega
theorem frac_trans {a b c s t u : Int} (hs : 0 < s) (ht : 0 < t) (hu : 0 < u) (h1 : a * t ≤ b * s) (h2 : b * u ≤ c * t) : a * u ≤ c * s := by
  have e1 : a * t * u ≤ b * s * u := Int.mul_le_mul_of_nonneg_right h1 (by omega)
  have e2 : b * u * s ≤ c * t * s := Int.mul_le_mul_of_nonneg_right h2 (by omega)
  have e3 : b * s * u = b * u * s := by rw [Int.mul_assoc, Int.mul_comm s u, ← Int.mul_assoc]
  have e4 : a * t * u = (a * u) * t := by rw [Int.mul_assoc, Int.mul_comm t u, ← Int.mul_assoc]
  have e5 : c * t * s = (c * s) * t := by rw [Int.mul_assoc, Int.mul_comm t s, ← Int.mul_assoc]
  have e6 : (a * u) * t ≤ (c * s) * t := by omega
  exact Int.le_of_mul_le_mul_right e6 ht
theorem le_trans' {p q r : Pt} (hp : Dir p) (hq : Dir q) (hr : Dir r) (h1 : ¬ tn q p < 0) (h2 : ¬ tn r q < 0) : ¬ tn r p < 0 := by
  rw [tn_neg] at h1 h2 ⊢
  have a1 := qs_pos hp
  have a2 := qs_pos hq
  have a3 := qs_pos hr
  have := frac_trans (a := qf p.1 p.2) (b := qf q.1 q.2) (c := qf r.1 r.2) a1 a2 a3
  omega
end Lw

namespace Lw
open PySem PySem.Spec PyProof.Rows L2 TL
theorem ltv_iff {p q : Pt} (hp : Dir p) (hq : Dir q) : ltv p q = true ↔ tn p q < 0 := (tn_lt hp hq).1.symm
theorem ltv_no {p q : Pt} (hp : Dir p) (hq : Dir q) : ltv p q = false ↔ ¬ tn p q < 0 := by
  rw [← ltv_iff hp hq]
  cases ltv p q <;> simp
theorem weakV : Weak ltv Dir where
  tr := fun p q r hp hq hr h1 h2 => (ltv_no hr hp).mpr (le_trans' hp hq hr ((ltv_no hq hp).mp h1) ((ltv_no hr hq).mp h2))
  asy := fun p q hp hq h => (ltv_no hq hp).mpr (by
    have := (ltv_iff hp hq).mp h
    rw [tn_anti] at this
    omega)
theorem oAt_nat {α : Type} {xs : List α} {j : Int} (h0 : 0 ≤ j) {a : α} (h : xs[j.toNat]? = some a) : oAt xs j = some a := by
  have : j = (j.toNat : Int) := by omega
  rw [this]
  exact atI_nat h
def tws (x : Pt) (other : List Pt) (t : List Pt × Int) : List Pt × Int := (t.1 ++ (other.drop t.2.toNat).takeWhile (fun y => ltv y x), t.2 + (((other.drop t.2.toNat).takeWhile (fun y => ltv y x)).length : Nat))
theorem while_M (x : Pt) (other : List Pt) (hx : Dir x) (ho : ∀ a ∈ other, Dir a) (hl : other.length ≤ 1000) (t : List Pt × Int) (h0 : 0 ≤ t.2) (h1 : t.2 ≤ other.length) (h2 : t.1.length ≤ 1000) : (rWh (fun (t5 : (List (Int × Int)) × Int) => (rAnd (r2 oLt (rP t5.2) (rM (fun x => ((List.length x : Nat) : Int)) (rP other))) (rC (fun (x : (Int × Int) × (Int × Int)) => M_is_slope_ahead_PP x.1 x.2) (rT (r2 oAt (rP other) (rP t5.2)) (rP x))))) (fun t5 =>
    (rSq (rAp t5.1 (r2 oAt (rP other) (rP t5.2))) fun (l6 : List (Int × Int)) =>
    (rSq (rB (rP (1 : Int)) fun y => rB (rO (oAdd t5.2 y)) fun z => rP (.nx z)) fun (v7 : Int) => rP (.nx (l6, v7))))) (t.1, t.2) : QM Unit (Fl (List Pt × Int) (List Pt × Int) (List Pt))) = rP (.nx (tws x other t)) := by
  refine rWh_pure (fun (u e : List Pt × Int) => 0 ≤ u.2 ∧ u.2 ≤ (other.length : Int) ∧ u.1.length + (other.length - u.2.toNat) ≤ 2000 ∧ e = tws x other u) (fun (u : List Pt × Int) => other.length - u.2.toNat) (fun u ⟨e, g0, g1, g2, g3⟩ => ?_) _ _ ⟨h0, h1, by show t.1.length + _ ≤ _; omega, rfl⟩
  by_cases hlt : u.2 < other.length
  · have hn : u.2.toNat < other.length := by omega
    have hat := oAt_nat g0 (List.getElem?_eq_getElem hn)
    have hy := ho _ (List.getElem_mem hn)
    have hd : other.drop u.2.toNat = other[u.2.toNat] :: other.drop (u.2.toNat + 1) := (List.drop_eq_getElem_cons hn)
    have hc : (rAnd (r2 oLt (rP u.2) (rM (fun x => ((List.length x : Nat) : Int)) (rP other))) (rC (fun (x : (Int × Int) × (Int × Int)) => M_is_slope_ahead_PP x.1 x.2) (rT (r2 oAt (rP other) (rP u.2)) (rP x))) : QM Unit Bool) = rP (ltv other[u.2.toNat] x) := by
      simp only [rM_P, r2_P, oLt_, rO_some, rAnd_P, hat, rT_P, rC_P, ahead_M _ _ hy.1 hx.1, rG_ok, hlt, decide_true, if_true]
      rfl
    rw [hc]
    cases hv : ltv other[u.2.toNat] x with
    | false =>
      left
      have e0 : tws x other u = u := by
        unfold tws
        rw [hd, List.takeWhile_cons, hv]
        simp
      exact ⟨rfl, ⟨g0, g1, g2, e0.symm⟩, fun e' ⟨_, _, _, h⟩ => h.trans e0⟩
    | true =>
      right
      have z : u.1.length < sizeLine := Nat.lt_of_lt_of_le (by omega : u.1.length < 100000) (size_small (Nat.le_refl _))
      have e1 : (u.2 + 1).toNat = u.2.toNat + 1 := by omega
      refine ⟨rfl, (u.1 ++ [other[u.2.toNat]], u.2 + 1), ?_, fun e' ⟨_, _, _, h⟩ => ⟨by dsimp only; omega, by dsimp only; omega, ?_, ?_⟩, ?_⟩
      · unfold rAp
        simp only [r2_P, hat, rO_some, rB_P, if_pos z, rSq_nx, oAdd_, rSq_B]
      · dsimp only
        rw [List.length_append, List.length_singleton, e1]
        omega
      · rw [h]
        unfold tws
        dsimp only
        rw [e1, hd, List.takeWhile_cons, hv]
        simp
        omega
      · dsimp only
        rw [e1]
        omega
  · left
    have e0 : tws x other u = u := by
      unfold tws
      rw [List.drop_eq_nil_of_le (by omega)]
      simp
    refine ⟨?_, ⟨g0, g1, g2, e0.symm⟩, fun e' ⟨_, _, _, h⟩ => h.trans e0⟩
    simp only [rM_P, r2_P, oLt_, rO_some, rAnd_P, hlt, decide_false, Bool.false_eq_true, if_false]
end Lw

namespace Lw
open PySem PySem.Spec PyProof.Rows L2 TL
theorem cutT_from {α : Type} (xs : List α) (k : Int) (h0 : 0 ≤ k) (h1 : k ≤ xs.length) : cutT xs (some k) none = xs.drop k.toNat := by
  unfold cutT
  have e : HT.sIx xs.length 0 (some k) = k.toNat := by
    show (if k < 0 then (k + (xs.length : Int)).toNat else min k.toNat xs.length) = _
    rw [if_neg (by omega)]
    omega
  rw [e, show HT.sIx xs.length xs.length none = xs.length from rfl]
  rw [List.take_of_length_le]
  rw [List.length_drop]
  omega
theorem cutT_to {α : Type} (xs : List α) (k : Int) (h0 : 0 ≤ k) (h1 : k ≤ xs.length) : cutT xs none (some k) = xs.take k.toNat := by
  unfold cutT
  have e : HT.sIx xs.length xs.length (some k) = k.toNat := by
    show (if k < 0 then (k + (xs.length : Int)).toNat else min k.toNat xs.length) = _
    rw [if_neg (by omega)]
    omega
  rw [e, show HT.sIx xs.length 0 none = 0 from rfl]
  simp
theorem tw_drop {α : Type} (p : α → Bool) (xs : List α) (n : Nat) (h : n ≤ xs.length) : xs.drop (n + ((xs.drop n).takeWhile p).length) = (xs.drop n).dropWhile p := by
  rw [← List.drop_drop]
  have e := List.takeWhile_append_dropWhile (p := p) (l := xs.drop n)
  conv => lhs; rw [← e]
  rw [List.drop_left']
  rw [e]
theorem tw_len {α : Type} (p : α → Bool) (xs : List α) : (xs.takeWhile p).length ≤ xs.length := (List.takeWhile_sublist p).length_le
def mstep (other : List Pt) (t : List Pt × Int) (x : Pt) : List Pt × Int := ((tws x other t).1 ++ [x], (tws x other t).2)
theorem mstep_ok (other : List Pt) : ∀ (xs : List Pt) (t : List Pt × Int), 0 ≤ t.2 → t.2 ≤ other.length → (xs.foldl (mstep other) t).1 ++ other.drop (xs.foldl (mstep other) t).2.toNat = t.1 ++ mrg ltv xs (other.drop t.2.toNat) ∧ 0 ≤ (xs.foldl (mstep other) t).2 ∧ (xs.foldl (mstep other) t).2 ≤ other.length
  | [], t, h0, h1 => ⟨rfl, h0, h1⟩
  | x :: xs, t, h0, h1 => by
    have hl := tw_len (fun y => ltv y x) (other.drop t.2.toNat)
    rw [List.length_drop] at hl
    have g0 : 0 ≤ (mstep other t x).2 := by unfold mstep tws; dsimp only; omega
    have g1 : (mstep other t x).2 ≤ other.length := by unfold mstep tws; dsimp only; omega
    obtain ⟨i1, i2, i3⟩ := mstep_ok other xs (mstep other t x) g0 g1
    refine ⟨?_, i2, i3⟩
    rw [List.foldl_cons, i1]
    have e : (mstep other t x).2.toNat = t.2.toNat + ((other.drop t.2.toNat).takeWhile (fun y => ltv y x)).length := by unfold mstep tws; dsimp only; omega
    rw [e, tw_drop _ _ _ (by omega)]
    show (tws x other t).1 ++ [x] ++ _ = t.1 ++ (_ ++ x :: _)
    unfold tws
    simp
theorem merged_M (xs ys : List Pt) (hx : ∀ a ∈ xs, Dir a) (hy : ∀ a ∈ ys, Dir a) (lx : xs.length ≤ 300) (ly : ys.length ≤ 300) : M_merged_by_slope_LPLP xs ys = .ok (mrg ltv xs ys) () := by
  unfold M_merged_by_slope_LPLP mb_merged_by_slope_LPLP
  have key := rFor_fold (S := Unit) (l := Empty) (ρ := List Pt) (body := fun (x4 : (Int × Int)) (t3 : (List (Int × Int)) × Int) =>
    (rSq (rWh (fun (t5 : (List (Int × Int)) × Int) => (rAnd (r2 oLt (rP t5.2) (rM (fun x => ((List.length x : Nat) : Int)) (rP ys))) (rC (fun (x : (Int × Int) × (Int × Int)) => M_is_slope_ahead_PP x.1 x.2) (rT (r2 oAt (rP ys) (rP t5.2)) (rP x4))))) (fun t5 =>
    (rSq (rAp t5.1 (r2 oAt (rP ys) (rP t5.2))) fun (l6 : List (Int × Int)) =>
    (rSq (rB (rP (1 : Int)) fun y => rB (rO (oAdd t5.2 y)) fun z => rP (.nx z)) fun (v7 : Int) => rP (.nx (l6, v7))))) (t3.1, t3.2)) fun (t5 : (List (Int × Int)) × Int) =>
    (rSq (rAp t5.1 (rP x4)) fun (l8 : List (Int × Int)) => rP (.nx (l8, t5.2))))) (f := mstep ys) (I := fun r t => (∀ a ∈ r, Dir a) ∧ 0 ≤ t.2 ∧ t.2 ≤ ys.length ∧ t.1.length + r.length + (ys.length - t.2.toNat) ≤ 600) xs ([], 0) ⟨hx, Int.le_refl 0, by dsimp only; omega, by dsimp only [List.length_nil]; omega⟩ fun x r t ⟨h1, h2, h3, h4⟩ => by
    rw [List.length_cons] at h4
    have w := while_M x ys (h1 x List.mem_cons_self) hy (by omega) t h2 h3 (by omega)
    have hl := tw_len (fun y => ltv y x) (ys.drop t.2.toNat)
    rw [List.length_drop] at hl
    have z : (tws x ys t).1.length < sizeLine := Nat.lt_of_lt_of_le (by unfold tws; dsimp only; rw [List.length_append]; omega : (tws x ys t).1.length < 100000) (size_small (Nat.le_refl _))
    refine ⟨?_, fun a ha => h1 a (List.mem_cons_of_mem _ ha), ?_, ?_, ?_⟩
    · rw [w, rSq_nx]
      unfold rAp
      rw [rB_P, if_pos z, rSq_nx]
      rfl
    · unfold mstep tws; dsimp only; omega
    · unfold mstep tws; dsimp only; omega
    · unfold mstep tws; dsimp only; rw [List.length_append, List.length_append, List.length_singleton]; omega
  rw [rB_P, rSq_nx, rB_P, rSq_nx, rB_P, key]
  obtain ⟨m1, m2, m3⟩ := mstep_ok ys xs ([], 0) (Int.le_refl 0) (by dsimp only; omega)
  have hm := mrg_len (lt := ltv) xs ys
  rw [List.nil_append] at m1
  have e0 : mrg ltv xs (List.drop (0 : Int).toNat ys) = mrg ltv xs ys := rfl
  rw [show (([], 0) : List Pt × Int).2 = 0 from rfl, e0] at m1
  have hlen := congrArg List.length m1
  rw [List.length_append, hm] at hlen
  have z : (100000 : Nat) ≤ sizeLine := size_small (Nat.le_refl _)
  rw [rSq_nx, rM_P, rSl_P, cutT_from _ _ m2 m3, rB_P]
  unfold oExt
  rw [if_pos (by omega), m1]
  rfl
theorem msort_short (n : Nat) (xs : List Pt) (h : ∀ a ∈ xs, Dir a) (h2 : xs.length < 2) : ∃ ys, Mr_sorted_by_slope_LP (n + 1) xs = .ok ys () ∧ Srt ltv ys ∧ (∀ a ∈ ys, Dir a) ∧ ys.length = xs.length ∧ ∀ v, Dir v → cls ltv v ys = cls ltv v xs := by
  refine ⟨xs, ?_, ?_, h, rfl, fun _ _ => rfl⟩
  · show rRet (mb_sorted_by_slope_LP _ xs) () = _
    unfold mb_sorted_by_slope_LP
    have : ((xs.length : Nat) : Int) < 2 := by omega
    simp only [rM_P, r2_P, oLt_, rO_some, rI_P, this, decide_true, if_true, rB_P, rSq_rt, rRet_rt]
    rfl
  · match xs, h2 with
    | [], _ => exact .nil
    | [x], _ => exact List.pairwise_singleton _ _
    | x :: y :: r, h2 => simp at h2; omega
theorem msort_M : ∀ (n : Nat) (xs : List Pt), (∀ a ∈ xs, Dir a) → xs.length ≤ 250 → xs.length ≤ 2 ^ n → ∃ ys, Mr_sorted_by_slope_LP (n + 1) xs = .ok ys () ∧ Srt ltv ys ∧ (∀ a ∈ ys, Dir a) ∧ ys.length = xs.length ∧ ∀ v, Dir v → cls ltv v ys = cls ltv v xs
  | 0, xs, h, hl, hn => msort_short 0 xs h (by have : (2 : Nat) ^ 0 = 1 := rfl; omega)
  | n + 1, xs, h, hl, hn => by
    by_cases h2 : xs.length < 2
    · exact msort_short (n + 1) xs h h2
    · have hd : oDiv ((xs.length : Nat) : Int) 2 = some (((xs.length : Nat) : Int) / 2) := oDiv_pos (by decide) (by decide)
      have k0 : 0 ≤ ((xs.length : Nat) : Int) / 2 := by omega
      have k1 : ((xs.length : Nat) : Int) / 2 ≤ xs.length := by omega
      have kn : (((xs.length : Nat) : Int) / 2).toNat = xs.length / 2 := by omega
      have hp : 2 ^ (n + 1) = 2 * 2 ^ n := by rw [Nat.pow_succ]; omega
      obtain ⟨a, a1, a2, a3, a4, a5⟩ := msort_M n (xs.take (xs.length / 2)) (fun b hb => h b (List.mem_of_mem_take hb)) (by rw [List.length_take]; omega) (by rw [List.length_take]; omega)
      obtain ⟨b, b1, b2, b3, b4, b5⟩ := msort_M n (xs.drop (xs.length / 2)) (fun b hb => h b (List.mem_of_mem_drop hb)) (by rw [List.length_drop]; omega) (by rw [List.length_drop]; omega)
      rw [List.length_take] at a4
      rw [List.length_drop] at b4
      have m := merged_M a b a3 b3 (by omega) (by omega)
      obtain ⟨m1, m2⟩ := mrg_ok weakV a3 b3 a2 b2
      refine ⟨mrg ltv a b, ?_, m1, fun z hz => (mrg_mem hz).elim (a3 z) (b3 z), by rw [mrg_len]; omega, fun v hv => ?_⟩
      · show rRet (mb_sorted_by_slope_LP (Mr_sorted_by_slope_LP (n + 1)) xs) () = _
        unfold mb_sorted_by_slope_LP
        have : ¬ ((xs.length : Nat) : Int) < 2 := by omega
        simp only [rM_P, r2_P, oLt_, rO_some, rI_P, this, decide_false, Bool.false_eq_true, if_false, rSq_nx, hd, rB_P, rSl_P, rC_P, cutT_to _ _ k0 k1, cutT_from _ _ k0 k1, kn, a1, b1, rG_ok, rT_P, m, rRet_rt]
        rfl
      · rw [m2 v hv, a5 v hv, b5 v hv, ← cls_app, List.take_append_drop]
theorem sortby_M (xs : List Pt) (h : ∀ a ∈ xs, Dir a) (hl : xs.length ≤ 250) : M_sorted_by_slope_LP xs = .ok (isort ltv xs) () := by
  obtain ⟨ys, h1, h2, h3, h4, h5⟩ := msort_M 11 xs h hl (by have : (2 : Nat) ^ 11 = 2048 := rfl; omega)
  obtain ⟨i1, i2, i3, i4⟩ := isort_ok weakV h
  have e : ys = isort ltv xs := sort_one weakV h3 i2 h2 i1 fun v pv => (h5 v pv).trans (i4 v pv).symm
  rw [← e]
  exact h1
end Lw

namespace Lw
open PySem PySem.Spec PyProof.Rows L2 TL
theorem mrTP : ∀ n, Mr_sorted_by_slope_TP n = Mr_sorted_by_slope_LP n
  | 0 => rfl
  | n + 1 => by
    funext xs
    show rRet (mb_sorted_by_slope_TP (Mr_sorted_by_slope_TP n) xs) () = rRet (mb_sorted_by_slope_LP (Mr_sorted_by_slope_LP n) xs) ()
    rw [mrTP n]
    rfl
def Vec (p : Pt) : Prop := SzP 200 p ∧ ¬ (p.1 = 0 ∧ p.2 = 0)
theorem Vec.dir {p : Pt} (h : Vec p) : Dir p := ⟨h.1.mono (by decide), h.2⟩
theorem vm_big : (2 : Int) ^ 200 ≤ c_VECTOR_MOST := by decide +kernel
theorem sz_le {x : Int} (h : Sz 200 x) : (if x < 0 then -x else x) ≤ c_VECTOR_MOST := by
  have := vm_big
  unfold Sz at h
  generalize c_VECTOR_MOST = M at *
  have e : ((2 ^ 200 : Nat) : Int) = 2 ^ 200 := by simp
  split <;> omega
theorem need_M (p : Pt) (h : Vec p) : M_need_direction_P p = .ok () () := by
  have h1 := sz_le h.1.1
  have h2 := sz_le h.1.2
  have h3 : ¬ p = (0, 0) := fun e => h.2 (by rw [e]; exact ⟨rfl, rfl⟩)
  have hn : ∀ n, M_is_number_I n = .ok true () := fun n => by unfold M_is_number_I mb_is_number_I; simp
  have hp : M_is_number_pair_P p = .ok true () := by unfold M_is_number_pair_P mb_is_number_pair_P; simp [hn]
  have hv : M_is_vector_P p = .ok true () := by
    unfold M_is_vector_P mb_is_vector_P
    generalize c_VECTOR_MOST = M at *
    simp only [rC_P, hp, rG_ok, rM_P, rT_P, r2_P, oLe_, rO_some, rAnd_P, if_true, rB_P, rRet_rt, rP_ap]
    generalize (if p.1 < 0 then -p.1 else p.1) = A at *
    generalize (if p.2 < 0 then -p.2 else p.2) = B at *
    have : (if B > A then B else A) ≤ M := by split <;> assumption
    simp [this]
  have hd : M_is_direction_P p = .ok true () := by
    unfold M_is_direction_P mb_is_direction_P
    simp [hv, h3]
  unfold M_need_direction_P mb_need_direction_P
  simp [hd]
theorem inslopes_M (xs : List Pt) (h : ∀ a ∈ xs, Vec a) (hl : xs.length ≤ 200) : M_in_slopes_LP xs = .ok (isort ltv xs) () := by
  have hr : M_is_row_LPII xs 0 c_VECTORS_MOST = .ok true () := by
    unfold M_is_row_LPII mb_is_row_LPII
    have : ((xs.length : Nat) : Int) ≤ c_VECTORS_MOST := by show _ ≤ (200 : Int); omega
    simp [this]
  have hs := sortby_M xs (fun a ha => (h a ha).dir) (by omega)
  unfold M_in_slopes_LP mb_in_slopes_LP
  simp only [rT_P, rC_P, hr, rG_ok, rM_P, rI_P, Bool.not_true, Bool.false_eq_true, if_false, rSq_nx, rB_P]
  rw [rSq_fold (fun _ _ => ()) (fun r _ => ∀ a ∈ r, Vec a) h fun x r t hx => by
    refine ⟨?_, fun a ha => hx a (List.mem_cons_of_mem _ ha)⟩
    simp [need_M x (hx x List.mem_cons_self)]]
  simp [hs]
theorem inslopesT_M (xs : List Pt) (h : ∀ a ∈ xs, Vec a) (hl : xs.length ≤ 200) : M_in_slopes_TP xs = .ok (isort ltv xs) () := by
  rw [← inslopes_M xs h hl]
  have e : M_sorted_by_slope_TP = M_sorted_by_slope_LP := by
    funext ys
    show Mr_sorted_by_slope_TP 12 ys = Mr_sorted_by_slope_LP 12 ys
    rw [mrTP]
  unfold M_in_slopes_TP mb_in_slopes_TP M_in_slopes_LP mb_in_slopes_LP
  rw [e]
  rfl
end Lw

namespace Lw
open PySem PySem.Spec PyProof.Rows L2 TL
theorem take9 (s : Src) : Wl (rCS mTake (rP (9 : Int))) s (fun v => 0 ≤ v ∧ v < 9) := Wl.takeC (by decide) (by decide)
theorem sub4 (s : Src) : Wl (r2 oSub (rCS mTake (rP (9 : Int))) (rP (4 : Int))) s (fun v => -4 ≤ v ∧ v ≤ 4) := Wl.r2 (take9 s) (fun s => Wl.pure (Q := fun x => x = 4) rfl) fun x y h e => by
  subst e
  exact ⟨_, rfl, by omega⟩
def Vdr (p : Pt) : Prop := SzP 150 p ∧ ¬ (p.1 = 0 ∧ p.2 = 0)
theorem small_sz {x : Int} (h : -4 ≤ x ∧ x ≤ 4) : Sz 3 x := Sz.of (by have : (2 : Int) ^ 3 = 8 := rfl; omega) (by have : (2 : Int) ^ 3 = 8 := rfl; omega)
theorem vector_W (s : Src) : Wl M__law_vector s Vdr := by
  unfold M__law_vector mb__law_vector
  refine Wl.ret ?_
  refine Wl.sq (Q := fun v => (-4 ≤ v.1.1 ∧ v.1.1 ≤ 4) ∧ (-4 ≤ v.1.2 ∧ v.1.2 ≤ 4)) (Wl.asg ((Wl.T (Wl.T (sub4 s) sub4) fun s => Wl.takeC (by decide) (by decide)).imp fun a h => h.1)) fun v1 s h1 => ?_
  have step : ∀ (n : Int) (t : Pt) (m : QM Src (Fl Pt Empty Pt)) (s : Src), ((-4 ≤ t.1 ∧ t.1 ≤ 4) ∧ (-4 ≤ t.2 ∧ t.2 ≤ 4)) → (∃ u : Pt, m = rP (.nx u) ∧ (-4 ≤ u.1 ∧ u.1 ≤ 4) ∧ (-4 ≤ u.2 ∧ u.2 ≤ 4)) → Wl (rI (r2 (oEq eI eI) (rP v1.2) (rP n)) m (rP (.nx t))) s (Nx fun u : Pt => (-4 ≤ u.1 ∧ u.1 ≤ 4) ∧ (-4 ≤ u.2 ∧ u.2 ≤ 4)) := fun n t m s ht ⟨u, hm, hu⟩ => by
    rw [hm]
    simp only [r2_P, oEq_int, rO_some, rI_P]
    split
    · exact Wl.nx hu
    · exact Wl.nx ht
  refine Wl.sq (step 0 v1.1 _ s h1 ⟨(v1.1.1, 0), by simp, by dsimp only; omega, by dsimp only; omega⟩) fun t2 s h2 => ?_
  refine Wl.sq (step 1 t2 _ s h2 ⟨(0, t2.2), by simp, by dsimp only; omega, by dsimp only; omega⟩) fun t5 s h5 => ?_
  refine Wl.sq (Q := fun v => v ∈ [(1 : Int), 1, 2, 7, 10 ^ 40]) (Wl.asg ?_) fun v8 s h8 => ?_
  · have e : (rCl (rP (1 : Int)) (rCl (rP (1 : Int)) (rCl (rP (2 : Int)) (rCl (rP (7 : Int)) (rCl (r2 oPow (rP (10 : Int)) (rP (40 : Int))) (rP []))))) : QM Src (List Int)) = rP [(1 : Int), 1, 2, 7, 10 ^ 40] := by
      have : oPow 10 40 = some (10 ^ 40) := by decide +kernel
      simp [this]
    rw [e]
    exact Wl.oneC (by simp) (by simp)
  have z8 : Sz 140 v8 ∧ v8 ≠ 0 := by
    simp only [List.mem_cons, List.not_mem_nil, or_false] at h8
    rcases h8 with rfl | rfl | rfl | rfl | rfl <;> exact ⟨by decide +kernel, by decide +kernel⟩
  have m1 := oMul_sz (small_sz h5.1) z8.1
  have m2 := oMul_sz (small_sz h5.2) z8.1
  by_cases ht : t5 = (0, 0)
  · refine Wl.rt (Wl.of_eq (m' := rP (v8, 0)) (by simp [ht]) (Wl.pure ⟨⟨z8.1.mono (by decide), (by decide : Sz 150 0)⟩, fun z => z8.2 z.1⟩))
  · refine Wl.rt (Wl.of_eq (m' := rP (t5.1 * v8, t5.2 * v8)) (by simp [ht, m1, m2]) (Wl.pure ⟨⟨((small_sz h5.1).mul z8.1).mono (by decide), ((small_sz h5.2).mul z8.1).mono (by decide)⟩, fun z => ht ?_⟩))
    obtain ⟨z1, z2⟩ := z
    rcases Int.mul_eq_zero.mp z1 with e1 | e1
    · rcases Int.mul_eq_zero.mp z2 with e2 | e2
      · exact Prod.ext e1 e2
      · exact absurd e2 z8.2
    · exact absurd e1 z8.2
end Lw

namespace Lw
open PySem PySem.Spec PyProof.Rows L2 TL
def toldT (x : PyData) : PyData := .tuple [.str "none", x, .bool true]
noncomputable def toldB (G : Fn) : DS :=
    (dSeq (dAsg (dC (.str "nothing")) (gNm 3))
    (dSeq (dTry ct_NoVector 4 (dExpr (dCall G [(dVar 0), (dVar 1), (dVar 2)])) (fun c fs => (dAsg ((fun c fs => dTup [((fun _ _ => (dC (.str "none"))) c fs), ((xTold kn_NoVector "told") c fs), ((xIs kn_NoVector) c fs)]) c fs) (gNm 3))))
    (dRet (dVar 3))))
theorem told_eq (w x y : PyData) : M__law_told_AAA w x y = semD (runF 5 (toldB fun _ => F__law_called [.pv w, .pv x, .pv y]) [.pv w, .pv x, .pv y]) := rfl
theorem told_val {w x y v : PyData} {as : List Sl} (h : F__law_called [.pv w, .pv x, .pv y] = .val v as) : M__law_told_AAA w x y = .ok (.str "nothing") () := by
  rw [told_eq, h]
  rfl
theorem told_ex {w x y v : PyData} {as : List Sl} (h : F__law_called [.pv w, .pv x, .pv y] = .ex "NoVector" [("told", v)] as) : M__law_told_AAA w x y = .ok (toldT v) () := by
  rw [told_eq, h]
  rfl
def IsDir (x : PyData) : Prop := ∃ as, F_need_direction [.pv x] = .val .none as
def NoDir (x : PyData) : Prop := ∃ as, F_need_direction [.pv x] = .ex "NoVector" [("told", x)] as
section
variable {G G0 G1 G2 G3 : Fn} {x y v : PyData} {c : Str} {fs : List (Str × PyData)} {as : List Sl} {K : DS}
theorem s1v (h : G [.pv x] = .val v as) : runF 2 (dSeq (dExpr (dCall G [(dVar 0)])) K) [.pv x, .pv y] = runF 2 K [.pv x, .pv y] := by
  show runF 2 (dSeq (dExpr (dCall (fun _ => G [.pv x]) [(dVar 0)])) K) [.pv x, .pv y] = _
  rw [h]
  rfl
theorem s1x (h : G [.pv x] = .ex c fs as) : ∃ bs, runF 2 (dSeq (dExpr (dCall G [(dVar 0)])) K) [.pv x, .pv y] = .ex c fs bs := by
  show ∃ bs, runF 2 (dSeq (dExpr (dCall (fun _ => G [.pv x]) [(dVar 0)])) K) [.pv x, .pv y] = _
  rw [h]
  exact ⟨_, rfl⟩
theorem s2v (h : G [.pv y] = .val v as) : runF 2 (dSeq (dExpr (dCall G [(dVar 1)])) K) [.pv x, .pv y] = runF 2 K [.pv x, .pv y] := by
  show runF 2 (dSeq (dExpr (dCall (fun _ => G [.pv y]) [(dVar 1)])) K) [.pv x, .pv y] = _
  rw [h]
  rfl
theorem s2x (h : G [.pv y] = .ex c fs as) : ∃ bs, runF 2 (dSeq (dExpr (dCall G [(dVar 1)])) K) [.pv x, .pv y] = .ex c fs bs := by
  show ∃ bs, runF 2 (dSeq (dExpr (dCall (fun _ => G [.pv y]) [(dVar 1)])) K) [.pv x, .pv y] = _
  rw [h]
  exact ⟨_, rfl⟩
theorem s3v (h : G [.pv x, .pv y] = .val v as) : ∃ bs, runF 2 (dRet (dCall G [(dVar 0), (dVar 1)])) [.pv x, .pv y] = .val v bs := by
  show ∃ bs, runF 2 (dRet (dCall (fun _ => G [.pv x, .pv y]) [(dVar 0), (dVar 1)])) [.pv x, .pv y] = _
  rw [h]
  exact ⟨_, rfl⟩
theorem b1x (h : G [.pv x] = .ex c fs as) : ∃ bs, runF 1 (dSeq (dExpr (dCall G [(dVar 0)])) K) [.pv x] = .ex c fs bs := by
  show ∃ bs, runF 1 (dSeq (dExpr (dCall (fun _ => G [.pv x]) [(dVar 0)])) K) [.pv x] = _
  rw [h]
  exact ⟨_, rfl⟩
noncomputable def calledG (G0 G1 G2 G3 : Fn) : DS :=
    (dSeq (dIfS (dBool (dOp pyEq (dVar 0) (dC (.int 0)))) (dRet (dCall G0 [(dVar 1), (dVar 2)])) dPass)
    (dSeq (dIfS (dBool (dOp pyEq (dVar 0) (dC (.int 1)))) (dRet (dCall G1 [(dVar 1), (dVar 2)])) dPass)
    (dRet (dIf (dBool (dOp pyEq (dVar 0) (dC (.int 2)))) (dCall G2 [(dVar 1)]) (dCall G3 [(dVar 1)])))))
theorem c0v (h : G0 [.pv x, .pv y] = .val v as) : ∃ bs, runF 3 (calledG G0 G1 G2 G3) [.pv (.int 0), .pv x, .pv y] = .val v bs := by
  show ∃ bs, runF 3 (calledG (fun _ => G0 [.pv x, .pv y]) G1 G2 G3) [.pv (.int 0), .pv x, .pv y] = _
  rw [h]
  exact ⟨_, rfl⟩
theorem c0x (h : G0 [.pv x, .pv y] = .ex c fs as) : ∃ bs, runF 3 (calledG G0 G1 G2 G3) [.pv (.int 0), .pv x, .pv y] = .ex c fs bs := by
  show ∃ bs, runF 3 (calledG (fun _ => G0 [.pv x, .pv y]) G1 G2 G3) [.pv (.int 0), .pv x, .pv y] = _
  rw [h]
  exact ⟨_, rfl⟩
theorem c1v (h : G1 [.pv x, .pv y] = .val v as) : ∃ bs, runF 3 (calledG G0 G1 G2 G3) [.pv (.int 1), .pv x, .pv y] = .val v bs := by
  show ∃ bs, runF 3 (calledG G0 (fun _ => G1 [.pv x, .pv y]) G2 G3) [.pv (.int 1), .pv x, .pv y] = _
  rw [h]
  exact ⟨_, rfl⟩
theorem c1x (h : G1 [.pv x, .pv y] = .ex c fs as) : ∃ bs, runF 3 (calledG G0 G1 G2 G3) [.pv (.int 1), .pv x, .pv y] = .ex c fs bs := by
  show ∃ bs, runF 3 (calledG G0 (fun _ => G1 [.pv x, .pv y]) G2 G3) [.pv (.int 1), .pv x, .pv y] = _
  rw [h]
  exact ⟨_, rfl⟩
theorem c2x (h : G2 [.pv x] = .ex c fs as) : ∃ bs, runF 3 (calledG G0 G1 G2 G3) [.pv (.int 2), .pv x, .pv y] = .ex c fs bs := by
  show ∃ bs, runF 3 (calledG G0 G1 (fun _ => G2 [.pv x]) G3) [.pv (.int 2), .pv x, .pv y] = _
  rw [h]
  exact ⟨_, rfl⟩
theorem c3v (h : G3 [.pv x] = .val v as) : ∃ bs, runF 3 (calledG G0 G1 G2 G3) [.pv (.int 3), .pv x, .pv y] = .val v bs := by
  show ∃ bs, runF 3 (calledG G0 G1 G2 (fun _ => G3 [.pv x])) [.pv (.int 3), .pv x, .pv y] = _
  rw [h]
  exact ⟨_, rfl⟩
theorem c3x (h : G3 [.pv x] = .ex c fs as) : ∃ bs, runF 3 (calledG G0 G1 G2 G3) [.pv (.int 3), .pv x, .pv y] = .ex c fs bs := by
  show ∃ bs, runF 3 (calledG G0 G1 G2 (fun _ => G3 [.pv x])) [.pv (.int 3), .pv x, .pv y] = _
  rw [h]
  exact ⟨_, rfl⟩
end
theorem called_g : F__law_called = runF 3 (calledG F_comes_ahead F_same_slope F_bare_vector F_in_slopes) := by
  unfold F__law_called b__law_called calledG
  rfl
theorem told_first {x y : PyData} (h : NoDir x) : ∀ w : Int, 0 ≤ w ∧ w < 3 → M__law_told_AAA (.int w) x y = .ok (toldT x) () := fun w hw => by
  obtain ⟨as, h⟩ := h
  have e0 : ∃ bs, F_comes_ahead [.pv x, .pv y] = .ex "NoVector" [("told", x)] bs := by
    unfold F_comes_ahead b_comes_ahead
    exact s1x h
  have e1 : ∃ bs, F_same_slope [.pv x, .pv y] = .ex "NoVector" [("told", x)] bs := by
    unfold F_same_slope b_same_slope
    exact s1x h
  have e2 : ∃ bs, F_bare_vector [.pv x] = .ex "NoVector" [("told", x)] bs := by
    unfold F_bare_vector b_bare_vector
    exact b1x h
  obtain ⟨b0, e0⟩ := e0
  obtain ⟨b1, e1⟩ := e1
  obtain ⟨b2, e2⟩ := e2
  have c : w = 0 ∨ w = 1 ∨ w = 2 := by omega
  rcases c with rfl | rfl | rfl
  · exact (c0x e0).elim fun bs h => told_ex (by rw [called_g]; exact h)
  · exact (c1x e1).elim fun bs h => told_ex (by rw [called_g]; exact h)
  · exact (c2x e2).elim fun bs h => told_ex (by rw [called_g]; exact h)
theorem told_second {x y : PyData} (hx : IsDir x) (h : NoDir y) : ∀ w : Int, 0 ≤ w ∧ w < 2 → M__law_told_AAA (.int w) x y = .ok (toldT y) () := fun w hw => by
  obtain ⟨as, h⟩ := h
  obtain ⟨bs, hx⟩ := hx
  have e0 : ∃ bs, F_comes_ahead [.pv x, .pv y] = .ex "NoVector" [("told", y)] bs := by
    unfold F_comes_ahead b_comes_ahead
    rw [s1v hx]
    exact s2x h
  have e1 : ∃ bs, F_same_slope [.pv x, .pv y] = .ex "NoVector" [("told", y)] bs := by
    unfold F_same_slope b_same_slope
    rw [s1v hx]
    exact s2x h
  obtain ⟨b0, e0⟩ := e0
  obtain ⟨b1, e1⟩ := e1
  have c : w = 0 ∨ w = 1 := by omega
  rcases c with rfl | rfl
  · exact (c0x e0).elim fun bs h => told_ex (by rw [called_g]; exact h)
  · exact (c1x e1).elim fun bs h => told_ex (by rw [called_g]; exact h)
theorem told_both {x y u v : PyData} {as bs : List Sl} (hx : IsDir x) (hy : IsDir y) (h0 : F_is_slope_ahead [.pv x, .pv y] = .val u as) (h1 : F_is_slope_alike [.pv x, .pv y] = .val v bs) : ∀ w : Int, 0 ≤ w ∧ w < 2 → M__law_told_AAA (.int w) x y = .ok (.str "nothing") () := fun w hw => by
  obtain ⟨cs, hx⟩ := hx
  obtain ⟨ds, hy⟩ := hy
  have e0 : ∃ bs, F_comes_ahead [.pv x, .pv y] = .val u bs := by
    unfold F_comes_ahead b_comes_ahead
    rw [s1v hx, s2v hy]
    exact s3v h0
  have e1 : ∃ bs, F_same_slope [.pv x, .pv y] = .val v bs := by
    unfold F_same_slope b_same_slope
    rw [s1v hx, s2v hy]
    exact s3v h1
  obtain ⟨b0, e0⟩ := e0
  obtain ⟨b1, e1⟩ := e1
  have c : w = 0 ∨ w = 1 := by omega
  rcases c with rfl | rfl
  · exact (c0v e0).elim fun bs h => told_val (by rw [called_g]; exact h)
  · exact (c1v e1).elim fun bs h => told_val (by rw [called_g]; exact h)
theorem told_3v {x y v : PyData} {as : List Sl} (h : F_in_slopes [.pv x] = .val v as) : M__law_told_AAA (.int 3) x y = .ok (.str "nothing") () :=
  (c3v h).elim fun bs h => told_val (by rw [called_g]; exact h)
theorem told_3x {x y v : PyData} {as : List Sl} (h : F_in_slopes [.pv x] = .ex "NoVector" [("told", v)] as) : M__law_told_AAA (.int 3) x y = .ok (toldT v) () :=
  (c3x h).elim fun bs h => told_ex (by rw [called_g]; exact h)
end Lw

namespace Lw
open PySem PySem.Spec PyProof.Rows L2 TL
theorem rf_val {ρ : Type} {enc : ρ → PyData} {m : R Unit ρ} {o : OutF} {r : ρ} (h : RF noS enc m o) (e : m = .ok r ()) (n : ∀ ds, enc r ≠ .list ds) : ∃ as, o = .val (enc r) as := by
  rw [e] at h
  obtain ⟨as, h | ⟨ds, h, k⟩⟩ := h
  · exact ⟨_, h⟩
  · exact absurd k (n ds)
abbrev gv (p : Pt) : PyData := eT2 eI eI p
theorem good_dir {p : Pt} (h : Vec p) : IsDir (gv p) := rf_val (r_need_direction_P p) (need_M p h) (fun ds z => nomatch z)
theorem alike_ex (p q : Pt) (hp : SzP 300 p) (hq : SzP 300 q) : ∃ b, M_is_slope_alike_PP p q = .ok b () := by
  unfold M_is_slope_alike_PP mb_is_slope_alike_PP
  have d : M_dot_PP p q = .ok (p.1 * q.1 + p.2 * q.2) () := by
    unfold M_dot_PP mb_dot_PP
    simp [oMul_sz hp.1 hq.1, oMul_sz hp.2 hq.2]
  by_cases c : p.1 * q.2 - p.2 * q.1 = 0
  · exact ⟨decide (0 < p.1 * q.1 + p.2 * q.2), by simp [cross_M p q hp hq, d, c]⟩
  · exact ⟨false, by simp [cross_M p q hp hq, d, c]⟩
def tenT : Pt := ((10 : Int) ^ 61, 1)
theorem ten_dir : IsDir (gv tenT) := ⟨_, rfl⟩
theorem ten_sz : SzP 300 tenT := ⟨Sz.of (by decide +kernel) (by decide +kernel), Sz.of (by decide +kernel) (by decide +kernel)⟩
theorem told_ten {p : Pt} (h : Vec p) : ∀ w : Int, 0 ≤ w ∧ w < 2 → M__law_told_AAA (.int w) (gv p) (gv tenT) = .ok (.str "nothing") () := by
  have hp : SzP 300 p := h.1.mono (by decide)
  obtain ⟨as, h0⟩ := rf_val (r_is_slope_ahead_PP p tenT) (ahead_M p tenT hp ten_sz) (fun ds z => nomatch z)
  obtain ⟨b, e⟩ := alike_ex p tenT hp ten_sz
  obtain ⟨bs, h1⟩ := rf_val (r_is_slope_alike_PP p tenT) e (fun ds z => nomatch z)
  exact told_both (good_dir h) ten_dir h0 h1
def odds : List PyData := [gv (0, 0), eT1 eI 1, eL eI [1, 0], eT3 eI eI eI (1, 0, 0), eT2 eB eI (true, 0), gv ((10 : Int) ^ 61 + 1, 0), gv (0, -(10 : Int) ^ 61 - 1), .none, .int 5, .str "v"]
theorem odd_no : ∀ x ∈ odds, NoDir x := by
  intro x hx
  simp only [odds, List.mem_cons, List.not_mem_nil, or_false] at hx
  rcases hx with rfl | rfl | rfl | rfl | rfl | rfl | rfl | rfl | rfl | rfl
  all_goals exact ⟨_, rfl⟩
theorem odd_ly : ∀ x ∈ odds, LY 3 x := by
  intro x hx
  simp only [odds, List.mem_cons, List.not_mem_nil, or_false] at hx
  rcases hx with rfl | rfl | rfl | rfl | rfl | rfl | rfl | rfl | rfl | rfl
  · exact (ly_P _).up (by decide)
  · exact (ly_tup (lys_c (ly_I 1) (lys_0 1)) (by simp)).up (by decide)
  · exact (ly_L ly_I (by simp)).up (by decide)
  · exact (ly_T3 (ly_I _) (ly_I _) (ly_I _)).up (by decide)
  · exact (ly_T2 (ly_B _) (ly_I _)).up (by decide)
  · exact (ly_P _).up (by decide)
  · exact (ly_P _).up (by decide)
  · exact ly_N.up (by decide)
  · exact (ly_I 5).up (by decide)
  · exact (ly_S (by decide +kernel)).up (by decide)
section
variable {G : Fn} {L v u : PyData} {vs : List PyData} {c : Str} {fs : List (Str × PyData)} {as : List Sl}
theorem lp_v (h : G [.pv v] = .val u as) (w : Option PyData) : loopF (gNm 1) (dExpr (dCall G [(dVar 1)])) (v :: vs) [some (.pv L), w.map Sl.pv] = loopF (gNm 1) (dExpr (dCall G [(dVar 1)])) vs [some (.pv L), some (.pv v)] := by
  have e : (dExpr (dCall G [(dVar 1)])) [some (.pv L), some (.pv v)] = .nx [some (.pv L), some (.pv v)] := by
    show (dExpr (dCall (fun _ => G [.pv v]) [(dVar 1)])) [some (.pv L), some (.pv v)] = _
    rw [h]
    rfl
  cases w <;> (show (match (dExpr (dCall G [(dVar 1)])) [some (.pv L), some (.pv v)] with
    | .nx e2 => loopF (gNm 1) (dExpr (dCall G [(dVar 1)])) vs e2
    | .ct e2 => loopF (gNm 1) (dExpr (dCall G [(dVar 1)])) vs e2
    | .bk e2 => .nx e2
    | o => o) = _; rw [e])
theorem lp_x (h : G [.pv v] = .ex c fs as) (w : Option PyData) : loopF (gNm 1) (dExpr (dCall G [(dVar 1)])) (v :: vs) [some (.pv L), w.map Sl.pv] = .ex c fs [some (.pv L), some (.pv v)] := by
  have e : (dExpr (dCall G [(dVar 1)])) [some (.pv L), some (.pv v)] = .ex c fs [some (.pv L), some (.pv v)] := by
    show (dExpr (dCall (fun _ => G [.pv v]) [(dVar 1)])) [some (.pv L), some (.pv v)] = _
    rw [h]
    rfl
  cases w <;> (show (match (dExpr (dCall G [(dVar 1)])) [some (.pv L), some (.pv v)] with
    | .nx e2 => loopF (gNm 1) (dExpr (dCall G [(dVar 1)])) vs e2
    | .ct e2 => loopF (gNm 1) (dExpr (dCall G [(dVar 1)])) vs e2
    | .bk e2 => .nx e2
    | o => o) = _; rw [e])
end
theorem told_list {p : Pt} {x : PyData} (h : Vec p) (hx : NoDir x) : M__law_told_AAA (.int 3) (.list [gv p, x, .none]) .none = .ok (toldT x) () := by
  obtain ⟨as, h1⟩ := good_dir h
  obtain ⟨bs, h2⟩ := hx
  have e : ∃ cs, F_in_slopes [.pv (.list [gv p, x, .none])] = .ex "NoVector" [("told", x)] cs := by
    have r : ∃ ds, F_is_row [.pv (.list [gv p, x, .none]), .pv (.int 0), .pv (.int c_VECTORS_MOST)] = .val (.bool true) ds := ⟨_, rfl⟩
    obtain ⟨ds, r⟩ := r
    unfold F_in_slopes b_in_slopes
    refine ⟨[.pv (.list [gv p, x, .none])], ?_⟩
    have l1 := lp_v (L := .list [gv p, x, .none]) (vs := [x, .none]) h1 none
    have l2 := lp_x (L := .list [gv p, x, .none]) (vs := [.none]) h2 (some (gv p))
    have l3 : loopF (gNm 1) (dExpr (dCall F_need_direction [(dVar 1)])) [gv p, x, .none] [some (.pv (.list [gv p, x, .none])), none] = .ex "NoVector" [("told", x)] [some (.pv (.list [gv p, x, .none])), some (.pv x)] := l1.trans l2
    show runF 2 (dSeq (dIfS (dNot (dTruth (dCall (fun _ => F_is_row [.pv (.list [gv p, x, .none]), .pv (.int 0), .pv (.int c_VECTORS_MOST)]) [(dVar 0), (dC (.int 0)), (dC (.int c_VECTORS_MOST))]))) (dRaise "NoVector" "told" (dC .none)) dPass) (dSeq (fun _ => loopF (gNm 1) (dExpr (dCall F_need_direction [(dVar 1)])) [gv p, x, .none] [some (.pv (.list [gv p, x, .none])), none]) _)) [.pv (.list [gv p, x, .none])] = _
    rw [r, l3]
    rfl
  obtain ⟨cs, e⟩ := e
  exact told_3x e
end Lw

namespace Lw
open PySem PySem.Spec PyProof.Rows L2 TL
def rep (n : Nat) (p : Pt) : List Pt := (List.replicate n [p]).flatten
theorem rep_eq (n : Nat) (p : Pt) : rep n p = List.replicate n p := by
  unfold rep
  induction n with
  | zero => rfl
  | succ n ih => rw [List.replicate_succ, List.flatten_cons, ih, List.replicate_succ]; rfl
theorem oRep_ok (n : Nat) (p : Pt) (h : 2 ≤ n ∧ n ≤ 1000) : oRep [p] (n : Int) = some (rep n p) := by
  unfold oRep
  rw [if_pos ⟨by simp, by omega, by omega, by simp⟩, Int.toNat_natCast]
  rfl
theorem told_200 {p : Pt} (h : Vec p) : M__law_told_AAA (.int 3) (eTL (eT2 eI eI) (rep 200 p)) .none = .ok (.str "nothing") () := by
  have e := inslopesT_M (rep 200 p) (fun a ha => by
    rw [rep_eq] at ha
    rw [(List.mem_replicate.mp ha).2]
    exact h) (by rw [rep_eq, List.length_replicate]; exact Nat.le_refl _)
  obtain ⟨as, h1⟩ := rf_val (r_in_slopes_TP (rep 200 p)) e (fun ds z => nomatch z)
  exact told_3v h1
theorem row_201 (p : Pt) : ∃ as, F_is_row [.pv (eTL (eT2 eI eI) (List.replicate 201 p)), .pv (.int 0), .pv (.int c_VECTORS_MOST)] = .val (.bool false) as := ⟨_, rfl⟩
theorem slopes_no {x : PyData} {as : List Sl} (r : F_is_row [.pv x, .pv (.int 0), .pv (.int c_VECTORS_MOST)] = .val (.bool false) as) : M__law_told_AAA (.int 3) x .none = .ok (toldT .none) () := by
  have e : ∃ cs, F_in_slopes [.pv x] = .ex "NoVector" [("told", .none)] cs := by
    unfold F_in_slopes b_in_slopes
    show ∃ cs, runF 2 (dSeq (dIfS (dNot (dTruth (dCall (fun _ => F_is_row [.pv x, .pv (.int 0), .pv (.int c_VECTORS_MOST)]) [(dVar 0), (dC (.int 0)), (dC (.int c_VECTORS_MOST))]))) (dRaise "NoVector" "told" (dC .none)) dPass) _) [.pv x] = _
    rw [r]
    exact ⟨_, rfl⟩
  exact e.elim fun cs e => told_3x e
theorem wrongs (p : Pt) : ∀ x ∈ [PyData.none, .int 7, .str "v", eTL (eT2 eI eI) (rep 201 p), .dict []], M__law_told_AAA (.int 3) x .none = .ok (toldT .none) () := by
  intro x hx
  simp only [List.mem_cons, List.not_mem_nil, or_false] at hx
  rcases hx with rfl | rfl | rfl | rfl | rfl
  · exact slopes_no (as := _) rfl
  · exact slopes_no (as := _) rfl
  · exact slopes_no (as := _) rfl
  · rw [rep_eq]
    exact (row_201 p).elim fun _ r => slopes_no r
  · exact slopes_no (as := _) rfl
theorem num_M (n : Int) : M_is_number_I n = .ok true () := by unfold M_is_number_I mb_is_number_I; simp
theorem pair_M (p : Pt) : M_is_number_pair_P p = .ok true () := by unfold M_is_number_pair_P mb_is_number_pair_P; simp [num_M]
theorem frac_M (p : Pt) : M_is_fraction_P p = .ok (decide (0 < p.2) && decide (((Nat.gcd p.1.natAbs p.2.natAbs : Nat) : Int) = 1)) () := by
  unfold M_is_fraction_P mb_is_fraction_P
  by_cases c : 0 < p.2
  · simp [pair_M, c]
  · simp [pair_M, c]
theorem fine_M (q : Pt × Pt) : M_is_fine_point_QPPq q = .ok ((decide (0 < q.1.2) && decide (((Nat.gcd q.1.1.natAbs q.1.2.natAbs : Nat) : Int) = 1)) && (decide (0 < q.2.2) && decide (((Nat.gcd q.2.1.natAbs q.2.2.natAbs : Nat) : Int) = 1))) () := by
  have h1 := frac_M q.1
  have h2 := frac_M q.2
  unfold M_is_fine_point_QPPq mb_is_fine_point_QPPq
  generalize (decide (0 < q.1.2) && decide (((Nat.gcd q.1.1.natAbs q.1.2.natAbs : Nat) : Int) = 1)) = b1 at *
  generalize (decide (0 < q.2.2) && decide (((Nat.gcd q.2.1.natAbs q.2.2.natAbs : Nat) : Int) = 1)) = b2 at *
  cases b1 <;> cases b2 <;> simp [h1, h2]
theorem fine1 (x : Int) : M_is_fine_point_QPPq ((x, 1), (1, 2)) = .ok true () := by
  rw [fine_M]
  simp
theorem fine2 (x : Int) : M_is_fine_point_QPPq ((x, 1), (1, 0)) = .ok false () := by
  rw [fine_M]
  simp
theorem fine3 (x : Int) : M_is_fine_point_QPPq ((x, 1), (3, -2)) = .ok false () := by
  rw [fine_M]
  simp
theorem fine4 (x : Int) : M_is_fine_point_QPPq ((2, 4), (x, 1)) = .ok false () := by
  rw [fine_M]
  have : (decide (((Nat.gcd ((2 : Int), (4 : Int)).1.natAbs ((2 : Int), (4 : Int)).2.natAbs : Nat) : Int) = 1)) = false := by decide +kernel
  dsimp only at this ⊢
  rw [this, Bool.and_false, Bool.false_and]
theorem fine5 : M_is_fine_point_QPPq (((10 : Int) ^ 60 * 10 ^ 39, 1), (1, (10 : Int) ^ 60 * 10 ^ 39)) = .ok true () := by
  rw [fine_M]
  have : ((decide (0 < (1 : Int)) && decide (((Nat.gcd ((10 : Int) ^ 60 * 10 ^ 39).natAbs (1 : Int).natAbs : Nat) : Int) = 1)) && (decide (0 < (10 : Int) ^ 60 * 10 ^ 39) && decide (((Nat.gcd (1 : Int).natAbs ((10 : Int) ^ 60 * 10 ^ 39).natAbs : Nat) : Int) = 1))) = true := by decide +kernel
  dsimp only at this ⊢
  rw [this]
theorem point_M (p : Pt) (h1 : -(10 : Int) ^ 60 ≤ p.1 ∧ p.1 ≤ 10 ^ 60) (h2 : -(10 : Int) ^ 60 ≤ p.2 ∧ p.2 ≤ 10 ^ 60) : M_is_point_P p = .ok true () := by
  have e : c_POINT_MOST = (10 : Int) ^ 60 := by decide +kernel
  unfold M_is_point_P mb_is_point_P
  rw [e]
  generalize (10 : Int) ^ 60 = M at *
  simp only [rC_P, pair_M, rG_ok, rM_P, rT_P, r2_P, oLe_, rO_some, rAnd_P, if_true, rB_P, rRet_rt, rP_ap]
  have : (if (if p.2 < 0 then -p.2 else p.2) > (if p.1 < 0 then -p.1 else p.1) then (if p.2 < 0 then -p.2 else p.2) else (if p.1 < 0 then -p.1 else p.1)) ≤ M := by
    split <;> split <;> (try split) <;> omega
  simp [this]
end Lw

namespace Lw
open PySem PySem.Spec PyProof.Rows L2 TL
theorem isnot_f (b : Bool) : oB pyIsNot eB eB b b = some false := by cases b <;> rfl
theorem p60 : oPow 10 60 = some ((10 : Int) ^ 60) := by decide +kernel
theorem p61 : oPow 10 61 = some ((10 : Int) ^ 61) := by decide +kernel
theorem p39 : oPow 10 39 = some ((10 : Int) ^ 39) := by decide +kernel
theorem told_ly {x : PyData} (h : LY 3 x) : LY 4 (toldT x) := ly_tup (lys_c ((ly_S (by decide +kernel)).up (by decide)) (lys_c h (lys_c ((ly_B true).up (by decide)) (lys_0 3)))) (by simp)
def greats : List Int := [(10 : Int) ^ 60 + 1, -(10 : Int) ^ 60 - 1]
theorem pts_no {v1 : Int} (h : v1 ∈ greats) (x : Int) : ∀ y ∈ [gv (v1, 0), gv (0, v1), eT1 eI x, eT3 eI eI eI (x, 0, 0), eL eI [x, 0], eT2 eB eI (true, 0), eT2 eI eN (x, ()), eT2 (eT2 eI eI) (eT2 eI eI) ((x, 1), (0, 1)), eI x, eN ()] ++ [eS "xy"], M_is_point_A y = .ok false () := by
  intro y hy
  simp only [List.mem_append, List.mem_cons, List.not_mem_nil, or_false] at hy
  simp only [greats, List.mem_cons, List.not_mem_nil, or_false] at h
  rcases h with rfl | rfl
  · rcases hy with (rfl | rfl | rfl | rfl | rfl | rfl | rfl | rfl | rfl | rfl) | rfl
    all_goals rfl
  · rcases hy with (rfl | rfl | rfl | rfl | rfl | rfl | rfl | rfl | rfl | rfl) | rfl
    all_goals rfl
theorem fines_no (x : Int) : ∀ y ∈ [gv (x, 0), eT1 (eT2 eI eI) (x, 1), eT2 (eT2 eI eI) (eT2 eI eI) ((2, 4), (x, 1)), eT2 (eT2 eI eI) (eT2 eI eI) ((x, 1), (1, 0)), eL (eT2 eI eI) [(x, 1), (x, 1)], eT2 (eT2 eI eI) (eT2 eI eI) ((x, 1), (3, -2)), eN (), eI 7], M_is_fine_point_A y = .ok false () := by
  intro y hy
  simp only [List.mem_cons, List.not_mem_nil, or_false] at hy
  rcases hy with rfl | rfl | rfl | rfl | rfl | rfl | rfl | rfl
  · rfl
  · rfl
  · exact semB_of (r_is_fine_point_QPPq _) (fine4 x)
  · exact semB_of (r_is_fine_point_QPPq _) (fine2 x)
  · rfl
  · exact semB_of (r_is_fine_point_QPPq _) (fine3 x)
  · rfl
  · rfl
theorem points_W {x : Int} (hx : -100 ≤ x ∧ x ≤ 100) (s : Src) : Wl (M__law_points_right_I x) s fun b => b = true := by
  have m60 : (100 : Int) ≤ 10 ^ 60 := by decide +kernel
  unfold M__law_points_right_I mb__law_points_right_I
  refine Wl.ret ?_
  refine Wl.sq (Q := fun v => v ∈ greats) (Wl.asg (Wl.on (xs := greats) ?_ (by simp [greats]) (by simp [greats]))) fun v1 s h1 => ?_
  · exact ev_Cl (ev_2 (ev_2 ev_P ev_P p60) ev_P rfl) (ev_Cl (ev_2 (ev_M (ev_2 ev_P ev_P p60)) ev_P rfl) ev_P)
  refine Wl.sq (Q := fun _ : Unit => True) (Wl.bind (Q := fun xs => ∀ y ∈ xs, M_is_point_P y = .ok true ()) (Wl.of_eq (ev_Cl (ev_T ev_P ev_P) (ev_Cl (ev_T (ev_2 ev_P ev_P p60) (ev_M (ev_2 ev_P ev_P p60))) (ev_Cl (ev_T ev_P ev_P) ev_P))) (Wl.pure ?_)) fun xs s hxs => (Wl.fors (fun r _ => ∀ y ∈ r, M_is_point_P y = .ok true ()) hxs fun y r t s hy => ?_).imp fun fl ⟨t, e, _⟩ => ⟨t, e, trivial⟩) fun _ s _ => ?_
  · intro y hy
    simp only [List.mem_cons, List.not_mem_nil, or_false] at hy
    rcases hy with rfl | rfl | rfl
    · exact point_M _ (by dsimp only; omega) (by dsimp only; omega)
    · exact point_M _ (by dsimp only; omega) (by dsimp only; omega)
    · exact point_M _ (by dsimp only; omega) (by dsimp only; omega)
  · exact Wl.of_eq (if_f (ev_Or (ev_2 (ev_C ev_P (hy y (List.mem_cons_self ..))) ev_P (isnot_f true)) (ev_2 (ev_C (ev_T (ev_T ev_P ev_P) (ev_T ev_P ev_P)) (fine1 x)) ev_P (isnot_f true)))) (Wl.nx fun z hz => hy z (List.mem_cons_of_mem _ hz))
  refine Wl.as (a := [gv (v1, 0), gv (0, v1), eT1 eI x, eT3 eI eI eI (x, 0, 0), eL eI [x, 0], eT2 eB eI (true, 0), eT2 eI eN (x, ()), eT2 (eT2 eI eI) (eT2 eI eI) ((x, 1), (0, 1)), eI x, eN ()]) ?_ ?_
  · exact ev_Cl (ev_M (ev_T ev_P ev_P)) (ev_Cl (ev_M (ev_T ev_P ev_P)) (ev_Cl (ev_M ev_P) (ev_Cl (ev_M (ev_T ev_P (ev_T ev_P ev_P))) (ev_Cl (ev_M (ev_Cl ev_P (ev_Cl ev_P ev_P))) (ev_Cl (ev_M (ev_T ev_P ev_P)) (ev_Cl (ev_M (ev_T ev_P ev_P)) (ev_Cl (ev_M (ev_T (ev_T ev_P ev_P) (ev_T ev_P ev_P))) (ev_Cl (ev_M ev_P) (ev_Cl (ev_M ev_P) ev_P)))))))))
  refine Wl.sq (Q := fun _ : Unit => True) (Wl.bind (Q := fun xs => ∀ y ∈ xs, M_is_point_A y = .ok false ()) (Wl.of_eq (ev_2 ev_P (ev_M (ev_Cl ev_P ev_P)) (oCat_ok (by simp))) (Wl.pure (pts_no h1 x))) fun xs s hxs => (Wl.fors (fun r _ => ∀ y ∈ r, M_is_point_A y = .ok false ()) hxs fun y r t s hy => ?_).imp fun fl ⟨t, e, _⟩ => ⟨t, e, trivial⟩) fun _ s _ => ?_
  · exact Wl.of_eq (if_f (ev_2 (ev_C ev_P (hy y (List.mem_cons_self ..))) ev_P (isnot_f false))) (Wl.nx fun z hz => hy z (List.mem_cons_of_mem _ hz))
  refine Wl.sq (Q := fun _ : Unit => True) (Wl.bind (Q := fun xs => ∀ y ∈ xs, M_is_fine_point_A y = .ok false ()) (Wl.of_eq (ev_Cl (ev_M (ev_T ev_P ev_P)) (ev_Cl (ev_M (ev_T ev_P ev_P)) (ev_Cl (ev_M (ev_T (ev_T ev_P ev_P) (ev_T ev_P ev_P))) (ev_Cl (ev_M (ev_T (ev_T ev_P ev_P) (ev_T ev_P ev_P))) (ev_Cl (ev_M (ev_Cl (ev_T ev_P ev_P) (ev_Cl (ev_T ev_P ev_P) ev_P))) (ev_Cl (ev_M (ev_T (ev_T ev_P ev_P) (ev_T ev_P (ev_M ev_P)))) (ev_Cl (ev_M ev_P) (ev_Cl (ev_M ev_P) ev_P)))))))) (Wl.pure (fines_no x))) fun xs s hxs => (Wl.fors (fun r _ => ∀ y ∈ r, M_is_fine_point_A y = .ok false ()) hxs fun y r t s hy => ?_).imp fun fl ⟨t, e, _⟩ => ⟨t, e, trivial⟩) fun _ s _ => ?_
  · exact Wl.of_eq (if_f (ev_2 (ev_C ev_P (hy y (List.mem_cons_self ..))) ev_P (isnot_f false))) (Wl.nx fun z hz => hy z (List.mem_cons_of_mem _ hz))
  refine Wl.as (a := (10 : Int) ^ 60 * 10 ^ 39) (ev_2 (ev_2 ev_P ev_P p60) (ev_2 ev_P ev_P p39) (by decide +kernel)) ?_
  exact Wl.rt (Wl.of_eq (ev_2 (ev_C (ev_T (ev_T ev_P ev_P) (ev_T ev_P ev_P)) fine5) ev_P (rfl : oB pyIs eB eB true true = some true)) (Wl.pure rfl))
theorem ne_told {x : PyData} (h : LY 3 x) : oNe eA (eT3 eS eA eB) (toldT x) (("none" : Str), x, true) = some false := oNe_ly (n := 4) (told_ly h)
theorem ne_toldN : oNe eA (eT3 eS eN eB) (toldT .none) (("none" : Str), (), true) = some false := oNe_ly (n := 4) (told_ly (ly_N.up (by decide)))
theorem ne_no : oNe eA eS (PyData.str "nothing") ("nothing" : Str) = some false := oNe_ly (ea := eA) (eb := eS) (x := PyData.str "nothing") (n := 1) (ly_S (x := "nothing") (by decide +kernel))
noncomputable abbrev tq (m : QM Src (PyData × PyData × PyData)) : QM Src PyData := rC (fun (x : PyData × PyData × PyData) => M__law_told_AAA x.1 x.2.1 x.2.2) m
theorem t1 {v4 : PyData} (n4 : NoDir v4) (l4 : LY 3 v4) {y : Int} (hy : 0 ≤ y ∧ y < 3) : (r2 (oNe eA (eT3 eS eA eB)) (tq (rT (rM eI (rP y)) (rT (rP v4) (rM eN (rP ()))))) (rT (rP ("none" : Str)) (rT (rP v4) (rP true))) : QM Src Bool) = rP false :=
  ev_2 (ev_C (a := (eI y, v4, PyData.none)) (ev_T (ev_M ev_P) (ev_T ev_P (ev_M ev_P))) (told_first n4 y hy)) (ev_T ev_P (ev_T ev_P ev_P)) (ne_told l4)
theorem t2 {v2 : Pt} {v4 : PyData} (h2 : Vec v2) (n4 : NoDir v4) (l4 : LY 3 v4) {y : Int} (hy : 0 ≤ y ∧ y < 2) : (r2 (oNe eA (eT3 eS eA eB)) (tq (rT (rM eI (rP y)) (rT (rM (eT2 eI eI) (rP v2)) (rP v4)))) (rT (rP ("none" : Str)) (rT (rP v4) (rP true))) : QM Src Bool) = rP false :=
  ev_2 (ev_C (a := (eI y, gv v2, v4)) (ev_T (ev_M ev_P) (ev_T (ev_M ev_P) ev_P)) (told_second (good_dir h2) n4 y hy)) (ev_T ev_P (ev_T ev_P ev_P)) (ne_told l4)
theorem t3 {v2 : Pt} (h2 : Vec v2) {y : Int} (hy : 0 ≤ y ∧ y < 2) : (r2 (oNe eA eS) (tq (rT (rM eI (rP y)) (rT (rM (eT2 eI eI) (rP v2)) (rM (eT2 eI eI) (rT (r2 oPow (rP (10 : Int)) (rP (61 : Int))) (rP (1 : Int))))))) (rP ("nothing" : Str)) : QM Src Bool) = rP false :=
  ev_2 (ev_C (a := (eI y, gv v2, gv tenT)) (ev_T (ev_M ev_P) (ev_T (ev_M ev_P) (ev_M (ev_T (ev_2 ev_P ev_P p61) ev_P)))) (told_ten h2 y hy)) ev_P ne_no
theorem t4 {v2 : Pt} {v4 : PyData} (h2 : Vec v2) (n4 : NoDir v4) (l4 : LY 3 v4) : (r2 (oNe eA (eT3 eS eA eB)) (tq (rT (rM eI (rP (3 : Int))) (rT (rM (eL eA) (rCl (rM (eT2 eI eI) (rP v2)) (rCl (rP v4) (rCl (rM eN (rP ())) (rP []))))) (rM eN (rP ()))))) (rT (rP ("none" : Str)) (rT (rP v4) (rP true))) : QM Src Bool) = rP false :=
  ev_2 (ev_C (a := (eI 3, PyData.list [gv v2, v4, .none], PyData.none)) (ev_T (ev_M ev_P) (ev_T (ev_M (ev_Cl (ev_M ev_P) (ev_Cl ev_P (ev_Cl (ev_M ev_P) ev_P)))) (ev_M ev_P))) (told_list h2 n4)) (ev_T ev_P (ev_T ev_P ev_P)) (ne_told l4)
theorem t5 {v2 : Pt} (h2 : Vec v2) : (r2 (oNe eA eS) (tq (rT (rM eI (rP (3 : Int))) (rT (rM (eTL (eT2 eI eI)) (r2 oRep (rM (fun x => [x]) (rP v2)) (rP (200 : Int)))) (rM eN (rP ()))))) (rP ("nothing" : Str)) : QM Src Bool) = rP false :=
  ev_2 (ev_C (a := (eI 3, eTL (eT2 eI eI) (rep 200 v2), PyData.none)) (ev_T (ev_M ev_P) (ev_T (ev_M (ev_2 (ev_M ev_P) ev_P (oRep_ok 200 v2 (by omega)))) (ev_M ev_P))) (told_200 h2)) ev_P ne_no
theorem t6 {y : PyData} (hy : M__law_told_AAA (.int 3) y .none = .ok (toldT .none) ()) : (r2 (oNe eA (eT3 eS eN eB)) (tq (rT (rM eI (rP (3 : Int))) (rT (rP y) (rM eN (rP ()))))) (rT (rP ("none" : Str)) (rT (rP ()) (rP true))) : QM Src Bool) = rP false :=
  ev_2 (ev_C (a := (eI 3, y, PyData.none)) (ev_T (ev_M ev_P) (ev_T ev_P (ev_M ev_P))) hy) (ev_T ev_P (ev_T ev_P ev_P)) ne_toldN
theorem l6 (v2 : Pt) : (rCl (rM eN (rP ())) (rCl (rM eI (rP (7 : Int))) (rCl (rM eS (rP ("v" : Str))) (rCl (rM (eTL (eT2 eI eI)) (r2 oRep (rM (fun x => [x]) (rP v2)) (rP (201 : Int)))) (rCl (r1 oDict1 (rCl (rT (rP v2) (rP (1 : Int))) (rP []))) (rP []))))) : QM Src (List PyData)) = rP [PyData.none, .int 7, .str "v", eTL (eT2 eI eI) (rep 201 v2), .dict []] :=
  ev_Cl (ev_M ev_P) (ev_Cl (ev_M ev_P) (ev_Cl (ev_M ev_P) (ev_Cl (ev_M (ev_2 (ev_M ev_P) ev_P (oRep_ok 201 v2 (by omega)))) (ev_Cl (ev_1 (ev_Cl (ev_T ev_P ev_P) ev_P) (rfl : oDict1 [(v2, 1)] = some (.dict []))) ev_P))))
theorem lo : (rCl (rM (eT2 eI eI) (rT (rP (0 : Int)) (rP (0 : Int)))) (rCl (rM (eT1 eI) (rP (1 : Int))) (rCl (rM (eL eI) (rCl (rP (1 : Int)) (rCl (rP (0 : Int)) (rP [])))) (rCl (rM (eT3 eI eI eI) (rT (rP (1 : Int)) (rT (rP (0 : Int)) (rP (0 : Int))))) (rCl (rM (eT2 eB eI) (rT (rP true) (rP (0 : Int)))) (rCl (rM (eT2 eI eI) (rT (r2 oAdd (r2 oPow (rP (10 : Int)) (rP (61 : Int))) (rP (1 : Int))) (rP (0 : Int)))) (rCl (rM (eT2 eI eI) (rT (rP (0 : Int)) (r2 oSub (rM (fun i => -i) (r2 oPow (rP (10 : Int)) (rP (61 : Int)))) (rP (1 : Int))))) (rCl (rM eN (rP ())) (rCl (rM eI (rP (5 : Int))) (rCl (rM eS (rP ("v" : Str))) (rP [])))))))))) : QM Src (List PyData)) = rP odds :=
  ev_Cl (ev_M (ev_T ev_P ev_P)) (ev_Cl (ev_M ev_P) (ev_Cl (ev_M (ev_Cl ev_P (ev_Cl ev_P ev_P))) (ev_Cl (ev_M (ev_T ev_P (ev_T ev_P ev_P))) (ev_Cl (ev_M (ev_T ev_P ev_P)) (ev_Cl (ev_M (ev_T (ev_2 (ev_2 ev_P ev_P p61) ev_P rfl) ev_P)) (ev_Cl (ev_M (ev_T ev_P (ev_2 (ev_M (ev_2 ev_P ev_P p61)) ev_P rfl))) (ev_Cl (ev_M ev_P) (ev_Cl (ev_M ev_P) (ev_Cl (ev_M ev_P) ev_P)))))))))
theorem law_ok (ns : List Int) (s : Src) : Wl (M_law ns) s fun b => b = true := by
  unfold M_law mb_law
  refine Wl.ret ?_
  refine Wl.pool (by omega) fun s => ?_
  refine Wl.sq (Q := Vec) (Wl.asg (Wl.CS (Q1 := fun _ => True) (Wl.pure trivial) fun _ s _ => (vector_W s).imp fun p h => ⟨h.1.mono (by decide), h.2⟩)) fun v2 s h2 => ?_
  refine Wl.as (a := odds) lo ?_
  refine Wl.sq (Q := fun v => v ∈ odds) (Wl.asg (Wl.oneC (by simp [odds]) (by simp [odds]))) fun v4 s h4 => ?_
  have n4 := odd_no v4 h4
  have l4 := odd_ly v4 h4
  refine Wl.sq (Q := fun _ : Unit => True) (Wl.bind (Q := fun xs : List Int => ∀ k ∈ xs, 0 ≤ k ∧ k < 3) (Wl.of_eq (ev_1 ev_P (oRng1_nat (n := 3) (by omega))) (Wl.pure fun k hk => by have := rng_mem hk; omega)) fun xs s hxs => (Wl.fors (fun r _ => ∀ k ∈ r, 0 ≤ k ∧ k < 3) hxs fun y r t s hy => ?_).imp fun fl ⟨t, e, _⟩ => ⟨t, e, trivial⟩) fun _ s _ => ?_
  · exact Wl.of_eq (if_f (t1 n4 l4 (hy y (List.mem_cons_self ..)))) (Wl.nx fun z hz => hy z (List.mem_cons_of_mem _ hz))
  refine Wl.sq (Q := fun _ : Unit => True) (Wl.bind (Q := fun xs : List Int => ∀ k ∈ xs, 0 ≤ k ∧ k < 2) (Wl.of_eq (ev_1 ev_P (oRng1_nat (n := 2) (by omega))) (Wl.pure fun k hk => by have := rng_mem hk; omega)) fun xs s hxs => (Wl.fors (fun r _ => ∀ k ∈ r, 0 ≤ k ∧ k < 2) hxs fun y r t s hy => ?_).imp fun fl ⟨t, e, _⟩ => ⟨t, e, trivial⟩) fun _ s _ => ?_
  · exact Wl.of_eq (if_f (ev_Or (t2 h2 n4 l4 (hy y (List.mem_cons_self ..))) (t3 h2 (hy y (List.mem_cons_self ..))))) (Wl.nx fun z hz => hy z (List.mem_cons_of_mem _ hz))
  refine Wl.sq (Q := fun _ : Unit => True) (Wl.of_eq (if_f (ev_Or (t4 h2 n4 l4) (t5 h2))) (Wl.nx trivial)) fun _ s _ => ?_
  refine Wl.sq (Q := fun _ : Unit => True) (Wl.bind (Q := fun xs => ∀ y ∈ xs, M__law_told_AAA (.int 3) y .none = .ok (toldT .none) ()) (Wl.of_eq (l6 v2) (Wl.pure (wrongs v2))) fun xs s hxs => (Wl.fors (fun r _ => ∀ y ∈ r, M__law_told_AAA (.int 3) y .none = .ok (toldT .none) ()) hxs fun y r t s hy => ?_).imp fun fl ⟨t, e, _⟩ => ⟨t, e, trivial⟩) fun _ s _ => ?_
  · exact Wl.of_eq (if_f (t6 (hy y (List.mem_cons_self ..)))) (Wl.nx fun z hz => hy z (List.mem_cons_of_mem _ hz))
  refine Wl.rt (Wl.CS (Q1 := fun x => -100 ≤ x ∧ x ≤ 100) (Wl.r2 (Wl.takeC (by decide) (by decide)) (fun s => Wl.pure (Q := fun x => x = 49) rfl) fun a b ha hb => ⟨a - b, rfl, by subst hb; omega⟩) fun x s hx => points_W hx s)
theorem law_pure (ns : List Int) (h : ns.length ≤ 63) : ∃ as', F_law [.sc ns] = .val (.bool true) as' := law_wl (fun s => r_law ns s) (law_ok ns)
end Lw

open PySem PySem.W PyProof.Rows
set_option maxRecDepth 100000 in
set_option maxHeartbeats 0 in
theorem PySem.Challenge.cw_gridshapes_k03_points_and_vectors_refuse_holds : PySem.Challenge.rw_gridshapes_k03_points_and_vectors_refuse.Holds := by
  w_on; o_law; k_head; (case hw => w_witness2)
  k_fill
  refine TL.walk_t (l := PySem.Challenge.rw_gridshapes_k03_points_and_vectors_refuse) (n := 63) (k := 20) (x := "_law_script") (CX := fun w => L2.CX PySem.Challenge.rw_gridshapes_k03_points_and_vectors_refuse.prog w) rfl (by decide) rfl rfl ⟨rfl, by decide, by decide⟩ (fun w h Y => PySem.W.kIn_of Y) ?F (fun _ _ _ _ _ h => TL.cx_end h)
  case F =>
    intro w mg fa h KX XX G hmg
    refine' Lw.all_mk KX G hmg ?g_NoVector ?g_ShapeError ?z_abs ?z_bool ?z_dict ?z_int ?z_isinstance ?z_len ?z_list ?z_max ?z_range ?z_tuple ?z_ValueError ?zc_POINT_MOST ?zc_VECTORS_MOST ?zc_VECTOR_MOST ?z_gcd ?a_is_number ?l_is_number ?c_is_number ?k_is_number ?a_is_row ?l_is_row ?c_is_row ?k_is_row ?a_cross ?l_cross ?c_cross ?k_cross ?a_dot ?l_dot ?c_dot ?k_dot ?a_is_upper ?l_is_upper ?c_is_upper ?k_is_upper ?a_bare_and_length ?l_bare_and_length ?c_bare_and_length ?k_bare_and_length ?a__law_pool ?l__law_pool ?c__law_pool ?k__law_pool ?a__law_take ?l__law_take ?c__law_take ?k__law_take ?a_is_number_pair ?l_is_number_pair ?c_is_number_pair ?k_is_number_pair ?a_is_slope_ahead ?l_is_slope_ahead ?c_is_slope_ahead ?k_is_slope_ahead ?a_is_slope_alike ?l_is_slope_alike ?c_is_slope_alike ?k_is_slope_alike ?a_bare_of ?l_bare_of ?c_bare_of ?k_bare_of ?a__law_one ?l__law_one ?c__law_one ?k__law_one ?a_is_fraction ?l_is_fraction ?c_is_fraction ?k_is_fraction ?a_is_point ?l_is_point ?c_is_point ?k_is_point ?a_is_vector ?l_is_vector ?c_is_vector ?k_is_vector ?a_merged_by_slope ?l_merged_by_slope ?c_merged_by_slope ?k_merged_by_slope ?a__law_vector ?l__law_vector ?c__law_vector ?k__law_vector ?a_is_fine_point ?l_is_fine_point ?c_is_fine_point ?k_is_fine_point ?a_is_direction ?l_is_direction ?c_is_direction ?k_is_direction ?a_need_direction ?l_need_direction ?c_need_direction ?k_need_direction ?a__law_points_right ?l__law_points_right ?c__law_points_right ?k__law_points_right ?a_comes_ahead ?l_comes_ahead ?c_comes_ahead ?k_comes_ahead ?a_same_slope ?l_same_slope ?c_same_slope ?k_same_slope ?a_bare_vector ?l_bare_vector ?c_bare_vector ?k_bare_vector ?a_sorted_by_slope ?l_sorted_by_slope ?c_sorted_by_slope ?k_sorted_by_slope ?a_in_slopes ?l_in_slopes ?c_in_slopes ?k_in_slopes ?a__law_called ?l__law_called ?c__law_called ?k__law_called ?a__law_told ?l__law_told ?c__law_told ?k__law_told ?a_law ?l_law ?c_law ?k_law ?x_NoVector ?r_NoVector ?sa_NoVector ?ga_NoVector ?gg_NoVector ?nb_NoVector ?i_NoVector ?kC_NoVector ?eC_NoVector ?tC_NoVector ?hC_NoVector ?l_IShapeError ?c_IShapeError ?k_IShapeError ?t_IShapeError ?vV ?s_ShapeError_NoVector ?s_NoVector_NoVector ?j_NoVector_ShapeError Lw.law_pure
    (case g_NoVector => first | k_is | rfl)
    (case g_ShapeError => first | k_is | rfl)
    (case z_abs => first | k_is | rfl)
    (case z_bool => first | k_is | rfl)
    (case z_dict => first | k_is | rfl)
    (case z_int => first | k_is | rfl)
    (case z_isinstance => first | k_is | rfl)
    (case z_len => first | k_is | rfl)
    (case z_list => first | k_is | rfl)
    (case z_max => first | k_is | rfl)
    (case z_range => first | k_is | rfl)
    (case z_tuple => first | k_is | rfl)
    (case z_ValueError => first | k_is | rfl)
    (case zc_POINT_MOST => first | exact TL.loose_int XX (List.Mem.head _) | exact TL.loose_int XX (List.Mem.tail _ (List.Mem.head _)) | exact TL.loose_int XX (List.Mem.tail _ (List.Mem.tail _ (List.Mem.head _))) | exact TL.loose_int XX (List.Mem.tail _ (List.Mem.tail _ (List.Mem.tail _ (List.Mem.head _)))) | exact TL.loose_int XX (List.Mem.tail _ (List.Mem.tail _ (List.Mem.tail _ (List.Mem.tail _ (List.Mem.head _))))) | exact TL.loose_int XX (List.Mem.tail _ (List.Mem.tail _ (List.Mem.tail _ (List.Mem.tail _ (List.Mem.tail _ (List.Mem.head _)))))) | exact TL.loose_int XX (List.Mem.tail _ (List.Mem.tail _ (List.Mem.tail _ (List.Mem.tail _ (List.Mem.tail _ (List.Mem.tail _ (List.Mem.head _))))))) | exact TL.loose_int XX (List.Mem.tail _ (List.Mem.tail _ (List.Mem.tail _ (List.Mem.tail _ (List.Mem.tail _ (List.Mem.tail _ (List.Mem.tail _ (List.Mem.head _)))))))) | exact ⟨_, PySem.W.mg_of KX G (by k_is), ⟨_, rfl⟩⟩)
    (case zc_VECTORS_MOST => first | exact TL.loose_int XX (List.Mem.head _) | exact TL.loose_int XX (List.Mem.tail _ (List.Mem.head _)) | exact TL.loose_int XX (List.Mem.tail _ (List.Mem.tail _ (List.Mem.head _))) | exact TL.loose_int XX (List.Mem.tail _ (List.Mem.tail _ (List.Mem.tail _ (List.Mem.head _)))) | exact TL.loose_int XX (List.Mem.tail _ (List.Mem.tail _ (List.Mem.tail _ (List.Mem.tail _ (List.Mem.head _))))) | exact TL.loose_int XX (List.Mem.tail _ (List.Mem.tail _ (List.Mem.tail _ (List.Mem.tail _ (List.Mem.tail _ (List.Mem.head _)))))) | exact TL.loose_int XX (List.Mem.tail _ (List.Mem.tail _ (List.Mem.tail _ (List.Mem.tail _ (List.Mem.tail _ (List.Mem.tail _ (List.Mem.head _))))))) | exact TL.loose_int XX (List.Mem.tail _ (List.Mem.tail _ (List.Mem.tail _ (List.Mem.tail _ (List.Mem.tail _ (List.Mem.tail _ (List.Mem.tail _ (List.Mem.head _)))))))) | exact ⟨_, PySem.W.mg_of KX G (by k_is), ⟨_, rfl⟩⟩)
    (case zc_VECTOR_MOST => first | exact TL.loose_int XX (List.Mem.head _) | exact TL.loose_int XX (List.Mem.tail _ (List.Mem.head _)) | exact TL.loose_int XX (List.Mem.tail _ (List.Mem.tail _ (List.Mem.head _))) | exact TL.loose_int XX (List.Mem.tail _ (List.Mem.tail _ (List.Mem.tail _ (List.Mem.head _)))) | exact TL.loose_int XX (List.Mem.tail _ (List.Mem.tail _ (List.Mem.tail _ (List.Mem.tail _ (List.Mem.head _))))) | exact TL.loose_int XX (List.Mem.tail _ (List.Mem.tail _ (List.Mem.tail _ (List.Mem.tail _ (List.Mem.tail _ (List.Mem.head _)))))) | exact TL.loose_int XX (List.Mem.tail _ (List.Mem.tail _ (List.Mem.tail _ (List.Mem.tail _ (List.Mem.tail _ (List.Mem.tail _ (List.Mem.head _))))))) | exact TL.loose_int XX (List.Mem.tail _ (List.Mem.tail _ (List.Mem.tail _ (List.Mem.tail _ (List.Mem.tail _ (List.Mem.tail _ (List.Mem.tail _ (List.Mem.head _)))))))) | exact ⟨_, PySem.W.mg_of KX G (by k_is), ⟨_, rfl⟩⟩)
    (case z_gcd => first | k_is | rfl)
    (case a_is_number => first | k_is | rfl)
    (case l_is_number => first | k_is | rfl)
    (case c_is_number => first | k_is | rfl)
    (case k_is_number => first | k_is | rfl)
    (case a_is_row => first | k_is | rfl)
    (case l_is_row => first | k_is | rfl)
    (case c_is_row => first | k_is | rfl)
    (case k_is_row => first | k_is | rfl)
    (case a_cross => first | k_is | rfl)
    (case l_cross => first | k_is | rfl)
    (case c_cross => first | k_is | rfl)
    (case k_cross => first | k_is | rfl)
    (case a_dot => first | k_is | rfl)
    (case l_dot => first | k_is | rfl)
    (case c_dot => first | k_is | rfl)
    (case k_dot => first | k_is | rfl)
    (case a_is_upper => first | k_is | rfl)
    (case l_is_upper => first | k_is | rfl)
    (case c_is_upper => first | k_is | rfl)
    (case k_is_upper => first | k_is | rfl)
    (case a_bare_and_length => first | k_is | rfl)
    (case l_bare_and_length => first | k_is | rfl)
    (case c_bare_and_length => first | k_is | rfl)
    (case k_bare_and_length => first | k_is | rfl)
    (case a__law_pool => first | k_is | rfl)
    (case l__law_pool => first | k_is | rfl)
    (case c__law_pool => first | k_is | rfl)
    (case k__law_pool => first | k_is | rfl)
    (case a__law_take => first | k_is | rfl)
    (case l__law_take => first | k_is | rfl)
    (case c__law_take => first | k_is | rfl)
    (case k__law_take => first | k_is | rfl)
    (case a_is_number_pair => first | k_is | rfl)
    (case l_is_number_pair => first | k_is | rfl)
    (case c_is_number_pair => first | k_is | rfl)
    (case k_is_number_pair => first | k_is | rfl)
    (case a_is_slope_ahead => first | k_is | rfl)
    (case l_is_slope_ahead => first | k_is | rfl)
    (case c_is_slope_ahead => first | k_is | rfl)
    (case k_is_slope_ahead => first | k_is | rfl)
    (case a_is_slope_alike => first | k_is | rfl)
    (case l_is_slope_alike => first | k_is | rfl)
    (case c_is_slope_alike => first | k_is | rfl)
    (case k_is_slope_alike => first | k_is | rfl)
    (case a_bare_of => first | k_is | rfl)
    (case l_bare_of => first | k_is | rfl)
    (case c_bare_of => first | k_is | rfl)
    (case k_bare_of => first | k_is | rfl)
    (case a__law_one => first | k_is | rfl)
    (case l__law_one => first | k_is | rfl)
    (case c__law_one => first | k_is | rfl)
    (case k__law_one => first | k_is | rfl)
    (case a_is_fraction => first | k_is | rfl)
    (case l_is_fraction => first | k_is | rfl)
    (case c_is_fraction => first | k_is | rfl)
    (case k_is_fraction => first | k_is | rfl)
    (case a_is_point => first | k_is | rfl)
    (case l_is_point => first | k_is | rfl)
    (case c_is_point => first | k_is | rfl)
    (case k_is_point => first | k_is | rfl)
    (case a_is_vector => first | k_is | rfl)
    (case l_is_vector => first | k_is | rfl)
    (case c_is_vector => first | k_is | rfl)
    (case k_is_vector => first | k_is | rfl)
    (case a_merged_by_slope => first | k_is | rfl)
    (case l_merged_by_slope => first | k_is | rfl)
    (case c_merged_by_slope => first | k_is | rfl)
    (case k_merged_by_slope => first | k_is | rfl)
    (case a__law_vector => first | k_is | rfl)
    (case l__law_vector => first | k_is | rfl)
    (case c__law_vector => first | k_is | rfl)
    (case k__law_vector => first | k_is | rfl)
    (case a_is_fine_point => first | k_is | rfl)
    (case l_is_fine_point => first | k_is | rfl)
    (case c_is_fine_point => first | k_is | rfl)
    (case k_is_fine_point => first | k_is | rfl)
    (case a_is_direction => first | k_is | rfl)
    (case l_is_direction => first | k_is | rfl)
    (case c_is_direction => first | k_is | rfl)
    (case k_is_direction => first | k_is | rfl)
    (case a_need_direction => first | k_is | rfl)
    (case l_need_direction => first | k_is | rfl)
    (case c_need_direction => first | k_is | rfl)
    (case k_need_direction => first | k_is | rfl)
    (case a__law_points_right => first | k_is | rfl)
    (case l__law_points_right => first | k_is | rfl)
    (case c__law_points_right => first | k_is | rfl)
    (case k__law_points_right => first | k_is | rfl)
    (case a_comes_ahead => first | k_is | rfl)
    (case l_comes_ahead => first | k_is | rfl)
    (case c_comes_ahead => first | k_is | rfl)
    (case k_comes_ahead => first | k_is | rfl)
    (case a_same_slope => first | k_is | rfl)
    (case l_same_slope => first | k_is | rfl)
    (case c_same_slope => first | k_is | rfl)
    (case k_same_slope => first | k_is | rfl)
    (case a_bare_vector => first | k_is | rfl)
    (case l_bare_vector => first | k_is | rfl)
    (case c_bare_vector => first | k_is | rfl)
    (case k_bare_vector => first | k_is | rfl)
    (case a_sorted_by_slope => first | k_is | rfl)
    (case l_sorted_by_slope => first | k_is | rfl)
    (case c_sorted_by_slope => first | k_is | rfl)
    (case k_sorted_by_slope => first | k_is | rfl)
    (case a_in_slopes => first | k_is | rfl)
    (case l_in_slopes => first | k_is | rfl)
    (case c_in_slopes => first | k_is | rfl)
    (case k_in_slopes => first | k_is | rfl)
    (case a__law_called => first | k_is | rfl)
    (case l__law_called => first | k_is | rfl)
    (case c__law_called => first | k_is | rfl)
    (case k__law_called => first | k_is | rfl)
    (case a__law_told => first | k_is | rfl)
    (case l__law_told => first | k_is | rfl)
    (case c__law_told => first | k_is | rfl)
    (case k__law_told => first | k_is | rfl)
    (case a_law => first | k_is | rfl)
    (case l_law => first | k_is | rfl)
    (case c_law => first | k_is | rfl)
    (case k_law => first | k_is | rfl)
    (case x_NoVector => first | k_is | rfl)
    (case r_NoVector => first | rfl | decide +kernel | k_is)
    (case sa_NoVector => first | k_is | rfl)
    (case ga_NoVector => first | k_is | rfl)
    (case gg_NoVector => first | k_is | rfl)
    (case nb_NoVector => first | k_is | rfl)
    (case i_NoVector => first | k_is | rfl)
    (case kC_NoVector => first | k_is | rfl)
    (case eC_NoVector => first | k_is | rfl)
    (case tC_NoVector => first | k_is | rfl)
    (case hC_NoVector => first | k_is | rfl)
    (case l_IShapeError => first | k_is | rfl)
    (case c_IShapeError => first | k_is | rfl)
    (case k_IShapeError => first | k_is | rfl)
    (case t_IShapeError => first | k_is | rfl)
    (case vV => first | k_is | rfl)
    (case s_ShapeError_NoVector => first | k_is | rfl)
    (case s_NoVector_NoVector => first | k_is | rfl)
    (case j_NoVector_ShapeError => first | k_is | rfl)


