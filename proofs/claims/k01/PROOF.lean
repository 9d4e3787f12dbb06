import PyProof.Rows.All
import Wide.All
import OpenK.AllK
import Wide.FinOn
import HandS.ForMost
import HandS.ForExc
import HandS.ExcInit
import HandS.ExcField
import HandS.Wide
import HandS.Gcd
import HandS.IsInst
import HandS.Zip
import HandS.Deep
import HandS.Flow
import HandS.Style
import HandS.TupAny
import KE.DataIsa
import KE.DataCmp
import HandS.TryMany
import HandS.ExcIs
import HandS.Comp
import HandS.Ends
import PySem.Challenge.RW_gridshapes_k01_whole_slopes
set_option Elab.async false
set_option linter.all false
set_option maxRecDepth 100000
set_option maxHeartbeats 2000000
/-! TL0: values as trees (PyData), slots of their own, what a step keeps. -/
namespace TL
open PySem PySem.Spec PyProof.Rows L2

/-- what a slot holds: a value; a list of its own, that may be changed; a list handed in to be changed; the script -/
inductive Sl where
  | pv (d : PyData)
  | ow (ds : List PyData)
  | io (ds : List PyData)
  | sc (ns : List Int)

abbrev En := List (Option Sl)

def Sl.mut : Sl → Bool
  | .ow _ => true
  | .io _ => true
  | _ => false

mutual
inductive Rp (K : W.Frag) (O : Addr → Prop) (H : Hp) : PyData → V → Prop
  | non : Rp K O H .none .non
  | bl (b : Bool) : Rp K O H (.bool b) (.bl b)
  | int (i : Int) : Rp K O H (.int i) (.int i)
  | str (x : Str) : Rp K O H (.str x) (.str x)
  | lst {a : Addr} {xs : List V} {ds : List PyData} : H a = some (.lst xs) → ¬ O a → Rps K O H ds xs → Rp K O H (.list ds) (.ref a)
  | tup {a : Addr} {xs : List V} {ds : List PyData} : SqT K H a xs → Rps K O H ds xs → Rp K O H (.tuple ds) (.ref a)
inductive Rps (K : W.Frag) (O : Addr → Prop) (H : Hp) : List PyData → List V → Prop
  | nil : Rps K O H [] []
  | cons {v : V} {vs : List V} {d : PyData} {ds : List PyData} : Rp K O H d v → Rps K O H ds vs → Rps K O H (d :: ds) (v :: vs)
end

mutual
theorem Rp.dp {K : W.Frag} {O : Addr → Prop} {H : Hp} : ∀ (d : PyData) (v : V), Rp K O H d v → Dp K H v d
  | .none, _, h => by cases h; exact .non
  | .bool b, _, h => by cases h; exact .bl b
  | .int i, _, h => by cases h; exact .int i
  | .str x, _, h => by cases h; exact .str x
  | .list ds, _, h => by
    cases h with
    | lst h1 h2 h3 => exact .lst (.inl (.inl h1)) (Rps.dp ds _ h3)
  | .tuple ds, _, h => by
    cases h with
    | tup h1 h3 => exact .tup h1 (Rps.dp ds _ h3)
  | .dict _, _, h => by cases h
theorem Rps.dp {K : W.Frag} {O : Addr → Prop} {H : Hp} : ∀ (ds : List PyData) (vs : List V), Rps K O H ds vs → DpAll K H vs ds
  | [], _, h => by cases h; exact .nil
  | d :: ds, _, h => by
    cases h with
    | cons h1 h2 => exact .cons (Rp.dp d _ h1) (Rps.dp ds _ h2)
end

/-- a value goes on to another heap -/
def Goes (K : W.Frag) (O : Addr → Prop) (H : Hp) (O' : Addr → Prop) (H' : Hp) : Prop :=
  (∀ a xs, H a = some (.lst xs) → ¬ O a → H' a = some (.lst xs) ∧ ¬ O' a) ∧ (∀ a xs, SqT K H a xs → SqT K H' a xs)
mutual
theorem Rp.goes {K : W.Frag} {O O' : Addr → Prop} {H H' : Hp} (g : Goes K O H O' H') : ∀ (d : PyData) (v : V), Rp K O H d v → Rp K O' H' d v
  | .none, _, h => by cases h; exact .non
  | .bool b, _, h => by cases h; exact .bl b
  | .int i, _, h => by cases h; exact .int i
  | .str x, _, h => by cases h; exact .str x
  | .list ds, _, h => by
    cases h with
    | lst h1 h2 h3 => exact .lst (g.1 _ _ h1 h2).1 (g.1 _ _ h1 h2).2 (Rps.goes g ds _ h3)
  | .tuple ds, _, h => by
    cases h with
    | tup h1 h3 => exact .tup (g.2 _ _ h1) (Rps.goes g ds _ h3)
  | .dict _, _, h => by cases h
theorem Rps.goes {K : W.Frag} {O O' : Addr → Prop} {H H' : Hp} (g : Goes K O H O' H') : ∀ (ds : List PyData) (vs : List V), Rps K O H ds vs → Rps K O' H' ds vs
  | [], _, h => by cases h; exact .nil
  | d :: ds, _, h => by
    cases h with
    | cons h1 h2 => exact .cons (Rp.goes g d _ h1) (Rps.goes g ds _ h2)
end
theorem Goes.trans {K : W.Frag} {O O' O2 : Addr → Prop} {H H' H2 : Hp} (a : Goes K O H O' H') (b : Goes K O' H' O2 H2) : Goes K O H O2 H2 :=
  ⟨fun c xs h n => b.1 c xs (a.1 c xs h n).1 (a.1 c xs h n).2, fun c xs h => b.2 c xs (a.2 c xs h)⟩

theorem Rps.length {K : W.Frag} {O : Addr → Prop} {H : Hp} : ∀ {ds : List PyData} {vs : List V}, Rps K O H ds vs → ds.length = vs.length
  | _, _, .nil => rfl
  | _, _, .cons _ t => by simp [Rps.length t]
theorem Rps.get {K : W.Frag} {O : Addr → Prop} {H : Hp} : ∀ {ds : List PyData} {vs : List V} {i : Nat} {d : PyData}, Rps K O H ds vs → ds[i]? = some d → ∃ v, vs[i]? = some v ∧ Rp K O H d v
  | _, _, _, _, .nil, e => by simp at e
  | _, _, 0, _, .cons r _, e => by simp at e; subst e; exact ⟨_, rfl, r⟩
  | _, _, i + 1, x, .cons _ t, e => by
    obtain ⟨u, h1, h2⟩ := Rps.get (i := i) (d := x) t (by simpa using e)
    exact ⟨u, by simpa using h1, h2⟩
theorem Rps.set {K : W.Frag} {O : Addr → Prop} {H : Hp} {d : PyData} {v : V} (r : Rp K O H d v) : ∀ {ds : List PyData} {vs : List V} (i : Nat), Rps K O H ds vs → Rps K O H (ds.set i d) (vs.set i v)
  | _, _, _, .nil => .nil
  | _, _, 0, .cons _ t => .cons r t
  | _, _, i + 1, .cons q t => .cons q (Rps.set r i t)
theorem Rps.append {K : W.Frag} {O : Addr → Prop} {H : Hp} : ∀ {ds es : List PyData} {vs ws : List V}, Rps K O H ds vs → Rps K O H es ws → Rps K O H (ds ++ es) (vs ++ ws)
  | _, _, _, _, .nil, s => s
  | _, _, _, _, .cons r t, s => .cons r (Rps.append t s)
theorem Rps.take {K : W.Frag} {O : Addr → Prop} {H : Hp} : ∀ {ds : List PyData} {vs : List V} (n : Nat), Rps K O H ds vs → Rps K O H (ds.take n) (vs.take n)
  | _, _, 0, _ => .nil
  | _, _, _ + 1, .nil => .nil
  | _, _, n + 1, .cons r t => .cons r (Rps.take n t)
theorem Rps.drop {K : W.Frag} {O : Addr → Prop} {H : Hp} : ∀ {ds : List PyData} {vs : List V} (n : Nat), Rps K O H ds vs → Rps K O H (ds.drop n) (vs.drop n)
  | _, _, 0, r => r
  | _, _, _ + 1, .nil => .nil
  | _, _, n + 1, .cons _ t => Rps.drop n t

/-- the addresses of the lists that the slots own -/
def Own (env : En) (σ : L2.St) (a : Addr) : Prop := ∃ (i : Nat) (s : Sl), env[i]? = some (some s) ∧ s.mut = true ∧ σ[i]? = some (some (V.ref a))
def Al (O0 : Addr → Prop) (env : En) (σ : L2.St) (a : Addr) : Prop := O0 a ∨ Own env σ a

/-- a list that nobody changes: locked, or of the written part -/
def SqS (K : W.Frag) (H : Hp) (a : Addr) (xs : List V) : Prop :=
  (∃ o, H a = some (.frz o (.lst xs))) ∨ ∃ (o : Obj) (its : Array Value) (n : Nat), K.lookup a = some o ∧ o.cls = .type "list" ∧ o.dict = none ∧ o.data = .seq its n ∧ its.size ≤ sizeLine ∧ Vals xs its.toList
theorem SqS.sq {K : W.Frag} {H : Hp} {a : Addr} {xs : List V} (h : SqS K H a xs) : SqL K H a xs := h.elim (fun h => .inl (.inr h)) .inr
/-- how a slot's content lies there -/
def RS (K : W.Frag) (O : Addr → Prop) (H : Hp) : Sl → V → Prop
  | .pv d, v => Rp K O H d v
  | .ow ds, v => ∃ a ps, v = .ref a ∧ H a = some (.lst ps) ∧ Rps K O H ds ps
  | .io ds, v => ∃ a ps, v = .ref a ∧ H a = some (.lst ps) ∧ Rps K O H ds ps
  | .sc ns, v => ∃ a, v = .ref a ∧ SqS K H a (ns.map V.int)

structure Ok (K : W.Frag) (O0 : Addr → Prop) (env : En) (σ : L2.St) (H : Hp) : Prop where
  len : env.length = σ.length
  val : ∀ (i : Nat) (s : Sl), env[i]? = some (some s) → ∃ v, σ[i]? = some (some v) ∧ RS K (Al O0 env σ) H s v
  inj : ∀ (i j : Nat) (s t : Sl) (a : Addr), env[i]? = some (some s) → s.mut = true → env[j]? = some (some t) → t.mut = true → σ[i]? = some (some (V.ref a)) → σ[j]? = some (some (V.ref a)) → i = j
  lst : ∀ a, O0 a → ∃ xs, H a = some (.lst xs)
  dis : ∀ a, Own env σ a → ¬ O0 a

theorem Ok.own {K : W.Frag} {O0 : Addr → Prop} {env : En} {σ : L2.St} {H : Hp} (ok : Ok K O0 env σ H) {a : Addr} (h : Own env σ a) : ∃ xs, H a = some (.lst xs) := by
  obtain ⟨i, s, e, m, es⟩ := h
  obtain ⟨v, ev, r⟩ := ok.val i s e
  rw [es] at ev
  cases ev
  cases s with
  | pv d => cases m
  | sc ns => cases m
  | ow ds =>
    obtain ⟨b, ps, e1, e2, _⟩ := r
    cases e1
    exact ⟨ps, e2⟩
  | io ds =>
    obtain ⟨b, ps, e1, e2, _⟩ := r
    cases e1
    exact ⟨ps, e2⟩
theorem Ok.al {K : W.Frag} {O0 : Addr → Prop} {env : En} {σ : L2.St} {H : Hp} (ok : Ok K O0 env σ H) {a : Addr} (h : Al O0 env σ a) : ∃ xs, H a = some (.lst xs) :=
  h.elim (ok.lst a) ok.own

/-- a step of the code, from one state to another one -/
structure Stp (K : W.Frag) (O0 : Addr → Prop) (env : En) (σ : L2.St) (H : Hp) (env' : En) (σ' : L2.St) (H' : Hp) : Prop where
  ok : Ok K O0 env' σ' H'
  keep : ∀ a o, H a = some o → ¬ Own env σ a → H' a = some o
  dom : ∀ a, H a ≠ none → H' a ≠ none
  le : ∀ a, Own env' σ' a → Own env σ a ∨ H a = none
  io : ∀ (i : Nat) (ds : List PyData), env[i]? = some (some (Sl.io ds)) → (∃ ds', env'[i]? = some (some (Sl.io ds'))) ∧ σ'[i]? = σ[i]?
/-- a step within an expression: the slots stay -/
structure StpE (K : W.Frag) (O0 : Addr → Prop) (env : En) (σ : L2.St) (H : Hp) (env' : En) (H' : Hp) : Prop where
  ok : Ok K O0 env' σ H'
  keep : ∀ a o, H a = some o → ¬ Own env σ a → H' a = some o
  dom : ∀ a, H a ≠ none → H' a ≠ none
  le : ∀ a, Own env' σ a → Own env σ a
  io : ∀ (i : Nat) (ds : List PyData), env[i]? = some (some (Sl.io ds)) → ∃ ds', env'[i]? = some (some (Sl.io ds'))

section
variable {K : W.Frag} {O0 : Addr → Prop} {env env1 env2 : En} {σ σ1 σ2 : L2.St} {H H1 H2 : Hp}
theorem StpE.step (s : StpE K O0 env σ H env1 H1) : Stp K O0 env σ H env1 σ H1 :=
  ⟨s.ok, s.keep, s.dom, fun a h => .inl (s.le a h), fun i ds e => ⟨s.io i ds e, rfl⟩⟩
theorem StpE.refl (ok : Ok K O0 env σ H) : StpE K O0 env σ H env H :=
  ⟨ok, fun _ _ h _ => h, fun _ h => h, fun _ h => h, fun i ds e => ⟨ds, e⟩⟩
theorem Stp.refl (ok : Ok K O0 env σ H) : Stp K O0 env σ H env σ H := (StpE.refl ok).step
theorem StpE.trans (a : StpE K O0 env σ H env1 H1) (b : StpE K O0 env1 σ H1 env2 H2) : StpE K O0 env σ H env2 H2 where
  ok := b.ok
  keep := fun c o h n => b.keep c o (a.keep c o h n) fun z => n (a.le c z)
  dom := fun c h => b.dom c (a.dom c h)
  le := fun c h => a.le c (b.le c h)
  io := fun i ds e => by
    obtain ⟨d1, e1⟩ := a.io i ds e
    exact b.io i d1 e1
theorem Stp.trans (a : Stp K O0 env σ H env1 σ1 H1) (b : Stp K O0 env1 σ1 H1 env2 σ2 H2) : Stp K O0 env σ H env2 σ2 H2 where
  ok := b.ok
  keep := fun c o h n => b.keep c o (a.keep c o h n) fun z => (a.le c z).elim n fun z => by rw [h] at z; cases z
  dom := fun c h => b.dom c (a.dom c h)
  le := fun c h => (b.le c h).elim (a.le c) fun z => .inr (by
    cases q : H c with
    | none => rfl
    | some o => exact absurd z (a.dom c (by rw [q]; intro h; cases h)))
  io := fun i ds e => by
    obtain ⟨⟨d1, e1⟩, e2⟩ := a.io i ds e
    obtain ⟨h1, h2⟩ := b.io i d1 e1
    exact ⟨h1, h2.trans e2⟩
theorem SqT.keep (ok : Ok K O0 env σ H) (keep : ∀ a o, H a = some o → ¬ Own env σ a → H1 a = some o) {a : Addr} {xs : List V} (h : SqT K H a xs) : SqT K H1 a xs := by
  rcases h with (h | ⟨o, h⟩) | h
  · exact .inl (.inl (keep _ _ h fun z => by obtain ⟨ys, e⟩ := ok.own z; rw [h] at e; cases e))
  · exact .inl (.inr ⟨o, keep _ _ h fun z => by obtain ⟨ys, e⟩ := ok.own z; rw [h] at e; cases e⟩)
  · exact .inr h
theorem Stp.goes (ok : Ok K O0 env σ H) (a : Stp K O0 env σ H env1 σ1 H1) : Goes K (Al O0 env σ) H (Al O0 env1 σ1) H1 :=
  ⟨fun c xs h n => ⟨a.keep c _ h fun z => n (.inr z), fun z => z.elim (fun z => n (.inl z)) fun z => (a.le c z).elim (fun z => n (.inr z)) fun z => by rw [h] at z; cases z⟩,
   fun c xs h => SqT.keep ok a.keep h⟩
theorem Stp.rp (ok : Ok K O0 env σ H) (a : Stp K O0 env σ H env1 σ1 H1) {d : PyData} {v : V} (r : Rp K (Al O0 env σ) H d v) : Rp K (Al O0 env1 σ1) H1 d v := Rp.goes (a.goes ok) d v r
theorem Stp.rps (ok : Ok K O0 env σ H) (a : Stp K O0 env σ H env1 σ1 H1) {d : List PyData} {v : List V} (r : Rps K (Al O0 env σ) H d v) : Rps K (Al O0 env1 σ1) H1 d v := Rps.goes (a.goes ok) d v r
end
end TL

/-! TL1: what an expression is worth, as a function of the slots; the judgements; variables, constants, operators, calls of the arguments. -/
namespace TL
open PySem PySem.Spec PyProof.Rows L2

/-- how a piece of code ends: a value, an exception (class, its fields), or beyond what is told here -/
inductive Out (α : Type) where
  | ok (a : α)
  | ex (c : Str) (fs : List (Str × PyData)) (env : En)
  | stuck
abbrev D := En → Out (PyData × En)
abbrev DT := En → Out (Bool × En)
abbrev DA := En → Out (List PyData × En)

def Out.bind {α β : Type} : Out α → (α → Out β) → Out β
  | .ok a, f => f a
  | .ex c fs env, _ => .ex c fs env
  | .stuck, _ => .stuck
@[simp] theorem Out.bind_ok {α β : Type} (a : α) (f : α → Out β) : (Out.ok a).bind f = f a := rfl
@[simp] theorem Out.bind_ex {α β : Type} (c : Str) (fs : List (Str × PyData)) (env : En) (f : α → Out β) : (Out.ex c fs env : Out α).bind f = .ex c fs env := rfl
@[simp] theorem Out.bind_stuck {α β : Type} (f : α → Out β) : (Out.stuck : Out α).bind f = .stuck := rfl
def Out.of {α : Type} : Option α → Out α
  | some a => .ok a
  | none => .stuck
@[simp] theorem Out.of_some {α : Type} (a : α) : Out.of (some a) = .ok a := rfl
@[simp] theorem Out.of_none {α : Type} : (Out.of (none : Option α)) = .stuck := rfl

/-- how an exception lies there -/
def XRep (mg : Str → Option Value) (K : W.Frag) (O : Addr → Prop) (H : Hp) (c : Str) (fs : List (Str × PyData)) (cls : Value) (d : Option Addr) : Prop :=
  ∃ C dd ps, mg c = some (.ref C) ∧ cls = .ref C ∧ d = some dd ∧ H dd = some (.xd ps) ∧ Paired (fun (f : Str × PyData) (p : Str × V) => f.1 = p.1 ∧ Rp K O H f.2 p.2) fs ps

structure Pm where
  K : W.Frag
  mg : Str → Option Value
  O0 : Addr → Prop
  W : WX

/-- the end of an expression -/
def EndE {α : Type} (Y : Pm) (env : En) (σ : L2.St) (H : Hp) (good : α → En → Hp → Prop) : Out (α × En) → Prop
  | .ok (v, env') => ∀ H', StpE Y.K Y.O0 env σ H env' H' → good v env' H'
  | .ex c fs env' => ∀ H' cls d, StpE Y.K Y.O0 env σ H env' H' → XRep Y.mg Y.K (Al Y.O0 env' σ) H' c fs cls d → Y.W cls d σ H'
  | .stuck => False
def tD (Y : Pm) (d : D) : TE := fun σ H Q => ∃ env, Ok Y.K Y.O0 env σ H ∧ EndE Y env σ H (fun v env' H' => ∀ p, Rp Y.K (Al Y.O0 env' σ) H' v p → Q p H') (d env)
def tT (Y : Pm) (d : DT) : TT := fun σ H Q => ∃ env, Ok Y.K Y.O0 env σ H ∧ EndE Y env σ H (fun b _ H' => Q b H') (d env)
def tA (Y : Pm) (d : DA) : TA := fun σ H Q => ∃ env, Ok Y.K Y.O0 env σ H ∧ EndE Y env σ H (fun vs env' H' => ∀ ps, Rps Y.K (Al Y.O0 env' σ) H' vs ps → Q ps H') (d env)

abbrev Cx.pm (X : Cx) (W : WX) (O0 : Addr → Prop) : Pm := ⟨X.K, X.mg, O0, W⟩
def DE (X : Cx) (W : WX) (x : Expr) (d : D) : Prop := ∀ O0, PE X x (tD (Cx.pm X W O0) d)
def DTe (X : Cx) (W : WX) (x : Expr) (d : DT) : Prop := ∀ O0, PT X x (tT (Cx.pm X W O0) d)
def DWe (X : Cx) (W : WX) (x : Expr) (d : DT) : Prop := ∀ O0, PW X x (tT (Cx.pm X W O0) d)
def DAs (X : Cx) (W : WX) (xs : List Expr) (d : DA) : Prop := ∀ O0, PA X xs (tA (Cx.pm X W O0) d)

section
variable {X : Cx} {e : Expr} {t t' : TE}
theorem PE.imp (h : PE X e t) (i : ∀ σ H Q, t' σ H Q → t σ H Q) : PE X e t' := ⟨fun pins s σ H Q I q => h.run pins s σ H Q I (i _ _ _ q)⟩
theorem PT.imp {t t' : TT} (h : PT X e t) (i : ∀ σ H Q, t' σ H Q → t σ H Q) : PT X e t' := ⟨fun pins s σ H Q I q => h.run pins s σ H Q I (i _ _ _ q)⟩
theorem PW.imp {t t' : TT} (h : PW X e t) (i : ∀ σ H Q, t' σ H Q → t σ H Q) : PW X e t' := ⟨fun wh pins s σ H Q I q => h.run wh pins s σ H Q I (i _ _ _ q)⟩
theorem PA.imp {es : List Expr} {t t' : TA} (h : PA X es t) (i : ∀ σ H Q, t' σ H Q → t σ H Q) : PA X es t' := ⟨fun pos pins s σ H Q I q => h.run pos pins s σ H Q I (i _ _ _ q)⟩
theorem PS.imp {st : Stmt} {t t' : TS} (h : PS X st t) (i : ∀ D σ H, t' D σ H → t D σ H) : PS X st t' := ⟨fun pins s σ H D I q => h.run pins s σ H D I (i _ _ _ q)⟩
theorem PSs.imp {st : List Stmt} {t t' : TS} (h : PSs X st t) (i : ∀ D σ H, t' D σ H → t D σ H) : PSs X st t' := ⟨fun pins s σ H D I q => h.run pins s σ H D I (i _ _ _ q)⟩
end

section
variable {Y : Pm} {env env1 : En} {σ : L2.St} {H H1 : Hp} {α β : Type}
/-- one piece behind another one -/
theorem EndE.mono {g g' : α → En → Hp → Prop} {o : Out (α × En)} (h : EndE Y env σ H g o) (i : ∀ v e' H', StpE Y.K Y.O0 env σ H e' H' → g v e' H' → g' v e' H') : EndE Y env σ H g' o := by
  cases o with
  | ok p => obtain ⟨v, e'⟩ := p; exact fun H' s => i _ _ _ s (h H' s)
  | ex c fs e' => exact h
  | stuck => exact h
theorem EndE.shift {g : α → En → Hp → Prop} {o : Out (α × En)} (s : StpE Y.K Y.O0 env σ H env1 H1) (h : EndE Y env σ H g o) : EndE Y env1 σ H1 g o := by
  cases o with
  | ok p => obtain ⟨v, e'⟩ := p; exact fun H' s' => h H' (s.trans s')
  | ex c fs e' => exact fun H' cls d s' r => h H' cls d (s.trans s') r
  | stuck => exact h
/-- to go on: behind a value of the first one stands the second one's end -/
theorem EndE.bind {g : α → En → Hp → Prop} {g' : β → En → Hp → Prop} {o : Out (α × En)} {f : α × En → Out (β × En)} (h : EndE Y env σ H g' (o.bind f))
    (i : ∀ v e' H', StpE Y.K Y.O0 env σ H e' H' → EndE Y e' σ H' g' (f (v, e')) → g v e' H') : EndE Y env σ H g o := by
  cases o with
  | ok p =>
    obtain ⟨v, e'⟩ := p
    intro H' s
    exact i v e' H' s (EndE.shift s h)
  | ex c fs e' => exact h
  | stuck => exact h
end

theorem EndE.of {Y : Pm} {env : En} {σ : L2.St} {H : Hp} {α β : Type} {g : α → En → Hp → Prop} {o : Option β} {f : β → Out (α × En)} (q : EndE Y env σ H g ((Out.of o).bind f)) : ∃ u, o = some u ∧ EndE Y env σ H g (f u) := by
  cases o with
  | none => exact (show False from q).elim
  | some u => exact ⟨u, rfl, q⟩

/-! ### expressions one behind another -/
def dCons (d : D) (r : DA) : DA := fun env => (d env).bind fun (v, e1) => (r e1).bind fun (vs, e2) => .ok (v :: vs, e2)
def dNil : DA := fun env => .ok ([], env)
def dThen (d : D) (f : PyData → D) : D := fun env => (d env).bind fun (v, e1) => f v e1

section
variable {X : Cx} {W : WX} {e : Expr} {es : List Expr}
theorem das_nil : DAs X W [] dNil := fun O0 => PA.imp pa_nil fun σ H Q ⟨env, ok, h⟩ => h H (StpE.refl ok) [] .nil
theorem das_cons {d : D} {r : DA} (h : DE X W e d) (hr : DAs X W es r) (hs : starEach (e :: es) X.env = (false, eval e X.env) :: starEach es X.env := by rfl) : DAs X W (e :: es) (dCons d r) := fun O0 => by
  refine PA.imp (pa_cons (h O0) (hr O0) hs) fun σ H Q ⟨env, ok, q⟩ => ?_
  refine ⟨env, ok, EndE.bind q fun v e1 H1 s1 q1 p rp => ⟨e1, s1.ok, EndE.bind q1 fun vs e2 H2 s2 q2 ps rps => ?_⟩⟩
  exact q2 H2 (StpE.refl s2.ok) (p :: ps) (.cons (s2.step.rp s1.ok rp) rps)
end

/-! ### what a value is worth without a change -/
section
variable {X : Cx} {W : WX}
def dC (v : PyData) : D := fun env => .ok (v, env)
def dVar (i : Nat) : D := fun env => match env[i]? with
  | some (some (.pv v)) => .ok (v, env)
  | some (some (.ow ds)) => .ok (.list ds, env.set i (some (.pv (.list ds))))
  | _ => .stuck
theorem de_c {e : Expr} {v : PyData} {w : V} (h : PE X e (tC w)) (r : ∀ K O H, Rp K O H v w) : DE X W e (dC v) := fun O0 =>
  PE.imp h fun σ H Q ⟨env, ok, q⟩ => q H (StpE.refl ok) w (r _ _ _)
theorem de_int {i : Int} {j pos} : DE X W (.Constant (.int i) j pos) (dC (.int i)) := de_c pe_int fun _ _ _ => .int i
theorem de_bl {b j pos} : DE X W (.Constant (.bool b) j pos) (dC (.bool b)) := de_c pe_bl fun _ _ _ => .bl b
theorem de_non {j pos} : DE X W (.Constant .none j pos) (dC .none) := de_c pe_non fun _ _ _ => .non
theorem de_str {x j pos} : DE X W (.Constant (.str x) j pos) (dC (.str x)) := de_c pe_str fun _ _ _ => .str x

theorem get_set {env : En} {i j : Nat} {x : Option Sl} {s : Sl} (h : (env.set i x)[j]? = some (some s)) : (i = j ∧ x = some s) ∨ (i ≠ j ∧ env[j]? = some (some s)) := by
  by_cases hij : i = j
  · subst hij
    by_cases hl : i < env.length
    · rw [List.getElem?_set_self hl] at h
      exact .inl ⟨rfl, Option.some.inj h⟩
    · rw [List.getElem?_eq_none (by simpa using hl)] at h
      cases h
  · rw [List.getElem?_set_ne hij] at h
    exact .inr ⟨hij, h⟩
/-- a list of its own is a value from here on -/
theorem freeze {K : PySem.W.Frag} {O0 : Addr → Prop} {env : En} {σ : L2.St} {H : Hp} (ok : Ok K O0 env σ H) {i : Nat} {ds : List PyData} (e : env[i]? = some (some (.ow ds))) :
    ∃ p, σ[i]? = some (some p) ∧ StpE K O0 env σ H (env.set i (some (.pv (.list ds)))) H ∧ Rp K (Al O0 (env.set i (some (.pv (.list ds)))) σ) H (.list ds) p := by
  obtain ⟨v, ev, a, ps, e1, e2, e3⟩ := ok.val i _ e
  subst e1
  have le : ∀ b, Own (env.set i (some (.pv (.list ds)))) σ b → Own env σ b ∧ b ≠ a := fun b ⟨j, s, hj, m, hb⟩ => by
    rcases get_set hj with ⟨h1, h2⟩ | ⟨h1, h2⟩
    · cases h2
      cases m
    · refine ⟨⟨j, s, h2, m, hb⟩, fun z => ?_⟩
      subst z
      exact h1 (ok.inj i j _ _ _ e rfl h2 m ev hb)
  have g : Goes K (Al O0 env σ) H (Al O0 (env.set i (some (.pv (.list ds)))) σ) H :=
    ⟨fun c xs h n => ⟨h, fun z => n (z.elim .inl fun z => .inr (le c z).1)⟩, fun c xs h => h⟩
  have na : ¬ Al O0 (env.set i (some (.pv (.list ds)))) σ a := fun z => z.elim (fun z => ok.dis a ⟨i, _, e, rfl, ev⟩ z) fun z => (le a z).2 rfl
  have r : Rp K (Al O0 (env.set i (some (.pv (.list ds)))) σ) H (.list ds) (.ref a) := .lst e2 na (Rps.goes g _ _ e3)
  refine ⟨_, ev, ⟨⟨?_, fun j s hj => ?_, fun j k s t b hj ms hk mt hbj hbk => ?_, ok.lst, fun b h => ok.dis b (le b h).1⟩, fun _ _ h _ => h, fun _ h => h, fun b h => (le b h).1, fun j es hj => ?_⟩, r⟩
  · rw [List.length_set]
    exact ok.len
  · rcases get_set hj with ⟨h1, h2⟩ | ⟨h1, h2⟩
    · cases h2
      subst h1
      exact ⟨_, ev, r⟩
    · obtain ⟨w, ew, rw'⟩ := ok.val j s h2
      refine ⟨w, ew, ?_⟩
      cases s with
      | pv d => exact Rp.goes g _ _ rw'
      | ow es => obtain ⟨b, qs, f1, f2, f3⟩ := rw'; exact ⟨b, qs, f1, f2, Rps.goes g _ _ f3⟩
      | io es => obtain ⟨b, qs, f1, f2, f3⟩ := rw'; exact ⟨b, qs, f1, f2, Rps.goes g _ _ f3⟩
      | sc ns => exact rw'
  · rcases get_set hj with ⟨h1, h2⟩ | ⟨h1, h2⟩
    · cases h2
      cases ms
    · rcases get_set hk with ⟨h3, h4⟩ | ⟨h3, h4⟩
      · cases h4
        cases mt
      · exact ok.inj j k s t b h2 ms h4 mt hbj hbk
  · refine ⟨es, ?_⟩
    by_cases hij : i = j
    · subst hij
      rw [e] at hj
      cases hj
    · rw [List.getElem?_set_ne hij]
      exact hj
theorem de_var {x : Str} {pos : Pos} {i : Nat} (h : PE X (.Name x pos) (tVar i)) : DE X W (.Name x pos) (dVar i) := fun O0 =>
  PE.imp h fun σ H Q ⟨env, ok, q⟩ => by
    unfold dVar at q
    split at q
    · rename_i v e
      obtain ⟨p, ep, r⟩ := ok.val i _ e
      exact ⟨p, ep, q H (StpE.refl ok) p r⟩
    · rename_i ds e
      obtain ⟨p, ep, st, r⟩ := freeze ok e
      exact ⟨p, ep, q H st p r⟩
    · exact q.elim
end
end TL

/-! TL2: operators, comparisons, truth, displays, items. -/
namespace TL
open PySem PySem.Spec PyProof.Rows L2

/-! ### a new object -/
section
variable {K : PySem.W.Frag} {O0 : Addr → Prop} {env : En} {σ : L2.St} {H : Hp} {p : Addr} {o : HO}
theorem Goes.new {O : Addr → Prop} (hp : H p = none) : Goes K O H O (upd H p o) :=
  ⟨fun a xs h n => ⟨by rw [upd_ne (ne_of_none h hp)]; exact h, n⟩, fun a xs h => by
    rcases h with (h | ⟨u, h⟩) | h
    · exact .inl (.inl (by rw [upd_ne (ne_of_none h hp)]; exact h))
    · exact .inl (.inr ⟨u, by rw [upd_ne (ne_of_none h hp)]; exact h⟩)
    · exact .inr h⟩
theorem SqS.new {a : Addr} {xs : List V} (hp : H p = none) (h : SqS K H a xs) : SqS K (upd H p o) a xs := by
  rcases h with ⟨u, h⟩ | h
  · exact .inl ⟨u, by rw [upd_ne (ne_of_none h hp)]; exact h⟩
  · exact .inr h
theorem RS.new {O : Addr → Prop} (hp : H p = none) : ∀ {s : Sl} {v : V}, RS K O H s v → RS K O (upd H p o) s v
  | .pv d, v, r => Rp.goes (Goes.new hp) d v r
  | .ow ds, v, ⟨a, ps, h1, h2, h3⟩ => ⟨a, ps, h1, by rw [upd_ne (ne_of_none h2 hp)]; exact h2, Rps.goes (Goes.new hp) _ _ h3⟩
  | .io ds, v, ⟨a, ps, h1, h2, h3⟩ => ⟨a, ps, h1, by rw [upd_ne (ne_of_none h2 hp)]; exact h2, Rps.goes (Goes.new hp) _ _ h3⟩
  | .sc ns, v, ⟨a, h1, h2⟩ => ⟨a, h1, SqS.new hp h2⟩
theorem Ok.new (ok : Ok K O0 env σ H) (hp : H p = none) : Ok K O0 env σ (upd H p o) :=
  ⟨ok.len, fun i s e => by
    obtain ⟨v, ev, r⟩ := ok.val i s e
    exact ⟨v, ev, RS.new hp r⟩, ok.inj, fun a h => by
    obtain ⟨xs, e⟩ := ok.lst a h
    exact ⟨xs, by rw [upd_ne (ne_of_none e hp)]; exact e⟩, ok.dis⟩
theorem StpE.new (ok : Ok K O0 env σ H) (hp : H p = none) : StpE K O0 env σ H env (upd H p o) :=
  ⟨ok.new hp, fun a u h _ => by rw [upd_ne (ne_of_none h hp)]; exact h, fun a h => by
    by_cases e : a = p
    · subst e
      exact absurd hp h
    · rw [upd_ne e]
      exact h, fun a h => h, fun i ds e => ⟨ds, e⟩⟩
theorem Rp.newT (hp : H p = none) {ds : List PyData} {xs : List V} {O : Addr → Prop} (r : Rps K O H ds xs) : Rp K O (upd H p (.tup xs)) (.tuple ds) (.ref p) :=
  .tup (.inl (.inl upd_same)) (Rps.goes (Goes.new hp) _ _ r)
theorem Rp.newL (ok : Ok K O0 env σ H) (hp : H p = none) {ds : List PyData} {xs : List V} (r : Rps K (Al O0 env σ) H ds xs) : Rp K (Al O0 env σ) (upd H p (.lst xs)) (.list ds) (.ref p) :=
  .lst upd_same (fun z => by obtain ⟨ys, e⟩ := ok.al z; rw [hp] at e; cases e) (Rps.goes (Goes.new hp) _ _ r)
end

/-! ### operators by values -/
/-- the operator rel gives what g tells -/
def OpD (K : PySem.W.Frag) (rel : R2) (g : PyData → PyData → Option PyData) : Prop :=
  ∀ (O0 : Addr → Prop) (env : En) (σ : L2.St) (H : Hp) (v w u : PyData) (p q : V) (Q : VK), Ok K O0 env σ H → Rp K (Al O0 env σ) H v p → Rp K (Al O0 env σ) H w q → g v w = some u →
    (∀ H' p', StpE K O0 env σ H env H' → Rp K (Al O0 env σ) H' u p' → Q p' H') → rel p q H Q
def dOp (g : PyData → PyData → Option PyData) (a b : D) : D := fun env => (a env).bind fun (v, e1) => (b e1).bind fun (w, e2) => (Out.of (g v w)).bind fun u => .ok (u, e2)

section
variable {X : Cx} {W : WX} {a b : Expr} {da db : D} {g : PyData → PyData → Option PyData} {r : R2} {pos : Pos}
theorem op_end {O0 : Addr → Prop} (od : OpD X.K r g) {env : En} {σ : L2.St} {H : Hp} {Q : VK} (ok : Ok X.K O0 env σ H)
    (q : EndE (Cx.pm X W O0) env σ H (fun v env' H' => ∀ p, Rp X.K (Al O0 env' σ) H' v p → Q p H') (dOp g da db env)) : tOp r (tD (Cx.pm X W O0) da) (tD (Cx.pm X W O0) db) σ H Q := by
  refine ⟨env, ok, EndE.bind q fun v e1 H1 s1 q1 p rp => ⟨e1, s1.ok, EndE.bind q1 fun w e2 H2 s2 q2 p2 rp2 => ?_⟩⟩
  cases hg : g v w with
  | none =>
    simp only [hg, Out.of_none, Out.bind_stuck] at q2
    exact (show False from q2).elim
  | some u =>
    simp only [hg, Out.of_some, Out.bind_ok] at q2
    exact od O0 e2 σ H2 v w u p p2 Q s2.ok (s2.step.rp s1.ok rp) rp2 hg fun H' p' s3 r3 => q2 H' s3 p' r3
theorem de_op {op : Operator} (ho : OpR X (binaryOp op) r) (od : OpD X.K r g) (ha : DE X W a da) (hb : DE X W b db) : DE X W (.BinOp a op b pos) (dOp g da db) := fun O0 =>
  PE.imp (pe_op ho (ha O0) (hb O0)) fun σ H Q ⟨env, ok, q⟩ => op_end od ok q
theorem de_cmp {op : CmpOp} (ho : OpR X (compareOp op) r) (od : OpD X.K r g) (ha : DE X W a da) (hb : DE X W b db) (hm : behindInMarks op b = false) : DE X W (.Compare a [op] [b] pos) (dOp g da db) := fun O0 =>
  PE.imp (pe_cmpR ho (ha O0) (hb O0) hm) fun σ H Q ⟨env, ok, q⟩ => op_end od ok q
/-- what is a bool, as a test -/
def dBool (d : D) : DT := fun env => (d env).bind fun (v, e1) => match v with
  | .bool b => .ok (b, e1)
  | _ => .stuck
theorem dt_cmp {op : CmpOp} (ho : OpR X (compareOp op) r) (od : OpD X.K r g) (ha : DE X W a da) (hb : DE X W b db) (hm : behindInMarks op b = false) : DTe X W (.Compare a [op] [b] pos) (dBool (dOp g da db)) := fun O0 =>
  PT.imp (pt_cmpR ho (ha O0) (hb O0) hm) fun σ H Q ⟨env, ok, q⟩ => op_end od ok (EndE.bind q fun v e1 H1 s1 q1 p rp => by
    cases v with
    | bool b =>
      cases rp
      exact ⟨b, rfl, q1 H1 (StpE.refl s1.ok)⟩
    | _ => exact q1.elim)
theorem OpD.or {K : PySem.W.Frag} {r r' : R2} {g g' : PyData → PyData → Option PyData} (h : OpD K r g) (h' : OpD K r' g') : OpD K (fun x y H Q => r x y H Q ∨ r' x y H Q) (fun v w => (g v w).or (g' v w)) := fun O0 env σ H v w u p q Q ok rp rq e k => by
  replace e : (g v w).or (g' v w) = some u := e
  cases hg : g v w with
  | some z =>
    rw [hg] at e
    cases e
    exact .inl (h O0 env σ H v w u p q Q ok rp rq hg k)
  | none =>
    rw [hg] at e
    exact .inr (h' O0 env σ H v w u p q Q ok rp rq e k)
theorem OpD.sub {K : PySem.W.Frag} {r : R2} {g g' : PyData → PyData → Option PyData} (h : OpD K r g) (i : ∀ v w u, g' v w = some u → g v w = some u) : OpD K r g' := fun O0 env σ H v w u p q Q ok rp rq e k =>
  h O0 env σ H v w u p q Q ok rp rq (i _ _ _ e) k
end

/-! ### ints -/
def gI (C : Int → Int → Prop) [∀ i j, Decidable (C i j)] (f : Int → Int → PyData) : PyData → PyData → Option PyData
  | .int i, .int j => if C i j then some (f i j) else none
  | _, _ => none
theorem od_I {K : PySem.W.Frag} {C : Int → Int → Prop} [∀ i j, Decidable (C i j)] {f : Int → Int → PyData} {fV : Int → Int → V} (hf : ∀ i j O H, Rp K O H (f i j) (fV i j)) : OpD K (rI C fV) (gI C f) := fun O0 env σ H v w u p q Q ok rp rq e k => by
  unfold gI at e
  split at e
  · cases rp
    cases rq
    split at e
    · cases e
      exact ⟨_, _, rfl, rfl, by assumption, k H _ (StpE.refl ok) (hf _ _ _ _)⟩
    · cases e
  · cases e
def gI0 (f : Int → Int → PyData) : PyData → PyData → Option PyData
  | .int i, .int j => some (f i j)
  | _, _ => none
theorem od_I0 {K : PySem.W.Frag} {f : Int → Int → PyData} {fV : Int → Int → V} (hf : ∀ i j O H, Rp K O H (f i j) (fV i j)) : OpD K (rI0 fV) (gI0 f) := fun O0 env σ H v w u p q Q ok rp rq e k => by
  unfold gI0 at e
  split at e
  · cases rp
    cases rq
    cases e
    exact ⟨_, _, rfl, rfl, k H _ (StpE.refl ok) (hf _ _ _ _)⟩
  · cases e

/-- the size that a product may have -/
def MulOk (i j : Int) : Prop := ((-(2 ^ 64) < i ∧ i < 2 ^ 64) ∨ (-(2 ^ 64) < j ∧ j < 2 ^ 64)) ∨ i.natAbs.log2 + j.natAbs.log2 < 1000000
instance : ∀ i j, Decidable (MulOk i j) := fun _ _ => inferInstanceAs (Decidable (_ ∨ _))
def DivOk (_ j : Int) : Prop := j ≠ 0 ∧ j.natAbs.log2 < 9000
instance : ∀ i j, Decidable (DivOk i j) := fun _ _ => inferInstanceAs (Decidable (_ ∧ _))
def ModOk (_ j : Int) : Prop := j ≠ 0
instance : ∀ i j, Decidable (ModOk i j) := fun _ j => inferInstanceAs (Decidable (j ≠ 0))
def PowOk (i j : Int) : Prop := 0 ≤ j ∧ j ≤ 1000000 ∧ i.natAbs < 2 ^ 64
instance : ∀ i j, Decidable (PowOk i j) := fun _ _ => inferInstanceAs (Decidable (_ ∧ _))
section
variable {X : Cx} {W : WX} {a b : Expr} {da db : D} {pos : Pos}
theorem orR {f : Value → Value → Sem Value} {C C' : Int → Int → Prop} {g : Int → Int → V} (h : OpR X f (rI C g)) (h' : OpR X f (rI C' g)) : OpR X f (rI (fun i j => C i j ∨ C' i j) g) := by
  intro pins s σ H x y v u Q I rx ry ⟨i, j, e1, e2, c, q⟩
  rcases c with c | c
  · exact h pins s σ H x y v u Q I rx ry ⟨i, j, e1, e2, c, q⟩
  · exact h' pins s σ H x y v u Q I rx ry ⟨i, j, e1, e2, c, q⟩
def pySub := gI0 fun i j => .int (i - j)
def pyMul := gI MulOk fun i j => .int (i * j)
def pyDiv := gI DivOk fun i j => .int (i.fdiv j)
theorem op_fdivG {X : Cx} : OpR X (binaryOp .FloorDiv) (rI DivOk fun i j => .int (i.fdiv j)) := opI fun _ _ _ _ _ _ _ hc q => floordiv_int hc.1 q (.inl (PyProof.noPylong_of_log2 hc.2))
def pyMod := gI ModOk fun i j => .int (i.fmod j)
def pyPow := gI PowOk fun i j => .int (i ^ j.toNat)
theorem de_sub (ha : DE X W a da) (hb : DE X W b db) : DE X W (.BinOp a .Sub b pos) (dOp pySub da db) := de_op op_sub (od_I0 fun _ _ _ _ => .int _) ha hb
theorem de_mul (ha : DE X W a da) (hb : DE X W b db) : DE X W (.BinOp a .Mult b pos) (dOp pyMul da db) := de_op (orR op_mul op_mulW) (od_I (C := MulOk) fun _ _ _ _ => .int _) ha hb
theorem de_div (ha : DE X W a da) (hb : DE X W b db) : DE X W (.BinOp a .FloorDiv b pos) (dOp pyDiv da db) := de_op op_fdivG (od_I (C := DivOk) fun _ _ _ _ => .int _) ha hb
theorem de_mod (ha : DE X W a da) (hb : DE X W b db) : DE X W (.BinOp a .Mod b pos) (dOp pyMod da db) := de_op op_modN (od_I (C := ModOk) fun _ _ _ _ => .int _) ha hb
theorem de_pow (ha : DE X W a da) (hb : DE X W b db) : DE X W (.BinOp a .Pow b pos) (dOp pyPow da db) := de_op op_pow (od_I (C := PowOk) fun _ _ _ _ => .int _) ha hb
end

/-! ### + -/
def pyAdd : PyData → PyData → Option PyData
  | .int i, .int j => some (.int (i + j))
  | .str x, .str y => if x.length + y.length ≤ sizeLine then some (.str (x ++ y)) else none
  | .tuple xs, .tuple ys => if xs.length + ys.length ≤ sizeLine then some (.tuple (xs ++ ys)) else none
  | .list xs, .list ys => if xs.length + ys.length ≤ sizeLine then some (.list (xs ++ ys)) else none
  | _, _ => none
theorem od_str {K : PySem.W.Frag} : OpD K (fun x y H Q => ∃ i j, x = .str i ∧ y = .str j ∧ i.length + j.length ≤ sizeLine ∧ Q (.str (i ++ j)) H) (fun v w => match v, w with
    | .str x, .str y => if x.length + y.length ≤ sizeLine then some (.str (x ++ y)) else none
    | _, _ => none) := fun O0 env σ H v w u p q Q ok rp rq e k => by
  dsimp only at e
  split at e
  · cases rp
    cases rq
    split at e
    · cases e
      exact ⟨_, _, rfl, rfl, by assumption, k H _ (StpE.refl ok) (.str _)⟩
    · cases e
  · cases e
theorem od_tup {K : PySem.W.Frag} : OpD K (rCatA K) (fun v w => match v, w with
    | .tuple xs, .tuple ys => if xs.length + ys.length ≤ sizeLine then some (.tuple (xs ++ ys)) else none
    | _, _ => none) := fun O0 env σ H v w u p q Q ok rp rq e k => by
  dsimp only at e
  split at e
  · cases rp with
    | tup h1 h2 =>
    cases rq with
    | tup h3 h4 =>
    split at e
    · cases e
      rename_i hl
      refine ⟨_, _, _, _, rfl, rfl, h1, h3, by rw [← h2.length, ← h4.length]; exact hl, fun z => ?_, fun z z' => ?_, fun _ _ p hp => ?_⟩
      · subst z
        cases h2
        exact k H _ (StpE.refl ok) (.tup h3 h4)
      · subst z'
        cases h4
        rw [List.append_nil] at k
        exact k H _ (StpE.refl ok) (.tup h1 h2)
      · exact k _ _ (StpE.new ok hp) (Rp.newT hp (h2.append h4))
    · cases e
  · cases e
theorem od_list {K : PySem.W.Frag} : OpD K rCat (fun v w => match v, w with
    | .list xs, .list ys => if xs.length + ys.length ≤ sizeLine then some (.list (xs ++ ys)) else none
    | _, _ => none) := fun O0 env σ H v w u p q Q ok rp rq e k => by
  dsimp only at e
  split at e
  · cases rp with
    | lst h1 h1' h2 =>
    cases rq with
    | lst h3 h3' h4 =>
    split at e
    · cases e
      rename_i hl
      exact ⟨_, _, _, _, rfl, rfl, h1, h3, by rw [← h2.length, ← h4.length]; exact hl, fun p hp => k _ _ (StpE.new ok hp) (Rp.newL ok hp (h2.append h4))⟩
    · cases e
  · cases e
theorem pyAdd_sub (v w u : PyData) (h : pyAdd v w = some u) : (((gI0 fun i j => .int (i + j)) v w).or (((fun v w => match v, w with
    | .str x, .str y => if x.length + y.length ≤ sizeLine then some (.str (x ++ y)) else none
    | _, _ => none : PyData → PyData → Option PyData) v w).or (((fun v w => match v, w with
    | .tuple xs, .tuple ys => if xs.length + ys.length ≤ sizeLine then some (.tuple (xs ++ ys)) else none
    | _, _ => none : PyData → PyData → Option PyData) v w).or ((fun v w => match v, w with
    | .list xs, .list ys => if xs.length + ys.length ≤ sizeLine then some (.list (xs ++ ys)) else none
    | _, _ => none : PyData → PyData → Option PyData) v w)))) = some u := by
  cases v <;> cases w <;> first | exact h | (simp only [pyAdd] at h; split at h <;> simp_all [gI0]; done) | cases h
section
variable {X : Cx} {W : WX} {a b : Expr} {da db : D} {pos : Pos}
theorem de_add (ha : DE X W a da) (hb : DE X W b db) : DE X W (.BinOp a .Add b pos) (dOp pyAdd da db) :=
  de_op (op_add.or (op_add_str.or (op_catA.or op_cat))) (OpD.sub (OpD.or (od_I0 fun _ _ _ _ => .int _) (OpD.or od_str (OpD.or od_tup od_list))) pyAdd_sub) ha hb

/-! ### comparisons -/
def pyLt : PyData → PyData → Option PyData
  | .int i, .int j => some (.bool (decide (i < j)))
  | _, _ => none
def pyLe : PyData → PyData → Option PyData
  | .int i, .int j => some (.bool (decide (i ≤ j)))
  | _, _ => none
def pyGt : PyData → PyData → Option PyData
  | .int i, .int j => some (.bool (decide (j < i)))
  | _, _ => none
def pyGe : PyData → PyData → Option PyData
  | .int i, .int j => some (.bool (decide (j ≤ i)))
  | _, _ => none
def pyEq (v w : PyData) : Option PyData := if SeqAt.shaped v = true ∧ SeqAt.shaped w = true then some (.bool (PyData.eqv v w)) else none
def pyNe (v w : PyData) : Option PyData := if SeqAt.shaped v = true ∧ SeqAt.shaped w = true then some (.bool (!PyData.eqv v w)) else none
/-- is None, is True, is False -/
def pyIs : PyData → PyData → Option PyData
  | v, .none => some (.bool (match v with | .none => true | _ => false))
  | .bool b, .bool c => some (.bool (decide (b = c)))
  | _, _ => none
def pyIsNot : PyData → PyData → Option PyData
  | v, .none => some (.bool (match v with | .none => false | _ => true))
  | .bool b, .bool c => some (.bool (!decide (b = c)))
  | _, _ => none
theorem odB {K : PySem.W.Frag} {f : Int → Int → Bool} : OpD K (rI0 fun i j => .bl (f i j)) (gI0 fun i j => .bool (f i j)) := od_I0 fun _ _ _ _ => .bl _
theorem od_lt {K : PySem.W.Frag} : OpD K (rI0 fun i j => .bl (decide (i < j))) pyLt := OpD.sub odB fun v w u h => by cases v <;> cases w <;> first | exact h | cases h
theorem od_le {K : PySem.W.Frag} : OpD K (rI0 fun i j => .bl (decide (i ≤ j))) pyLe := OpD.sub odB fun v w u h => by cases v <;> cases w <;> first | exact h | cases h
theorem od_gt {K : PySem.W.Frag} : OpD K (rI0 fun i j => .bl (decide (j < i))) pyGt := OpD.sub odB fun v w u h => by cases v <;> cases w <;> first | exact h | cases h
theorem od_ge {K : PySem.W.Frag} : OpD K (rI0 fun i j => .bl (decide (j ≤ i))) pyGe := OpD.sub odB fun v w u h => by cases v <;> cases w <;> first | exact h | cases h
theorem od_eq {K : PySem.W.Frag} : OpD K (rEqD K) pyEq := fun O0 env σ H v w u p q Q ok rp rq e k => by
  unfold pyEq at e
  split at e
  · rename_i h
    cases e
    exact ⟨v, w, rp.dp, rq.dp, h.1, h.2, k H _ (StpE.refl ok) (.bl _)⟩
  · cases e
theorem od_ne {K : PySem.W.Frag} : OpD K (rNeD K) pyNe := fun O0 env σ H v w u p q Q ok rp rq e k => by
  unfold pyNe at e
  split at e
  · rename_i h
    cases e
    exact ⟨v, w, rp.dp, rq.dp, h.1, h.2, k H _ (StpE.refl ok) (.bl _)⟩
  · cases e
def rIsA : R2 := fun x y H Q => (y = .non ∧ Q (.bl (decide (x = .non))) H) ∨ rIsB x y H Q
def rNotA : R2 := fun x y H Q => (y = .non ∧ Q (.bl (!decide (x = .non))) H) ∨ rNotB x y H Q
theorem od_is {K : PySem.W.Frag} : OpD K rIsA pyIs := fun O0 env σ H v w u p q Q ok rp rq e k => by
  unfold pyIs at e
  split at e
  · cases rq
    cases e
    refine .inl ⟨rfl, k H _ (StpE.refl ok) ?_⟩
    cases rp <;> exact .bl _
  · cases rp
    cases rq
    cases e
    exact .inr ⟨_, _, rfl, rfl, k H _ (StpE.refl ok) (.bl _)⟩
  · cases e
theorem od_isnot {K : PySem.W.Frag} : OpD K rNotA pyIsNot := fun O0 env σ H v w u p q Q ok rp rq e k => by
  unfold pyIsNot at e
  split at e
  · cases rq
    cases e
    refine .inl ⟨rfl, k H _ (StpE.refl ok) ?_⟩
    cases rp <;> exact .bl _
  · cases rp
    cases rq
    cases e
    exact .inr ⟨_, _, rfl, rfl, k H _ (StpE.refl ok) (.bl _)⟩
  · cases e
end
end TL

/-! TL3: the syntax of tests, displays, items, calls of built-ins. -/
namespace TL
open PySem PySem.Spec PyProof.Rows L2

/-- what a piece of code stands in: outside of an except suite, room for k calls, exceptions to W -/
structure Gd (X : Cx) (W : WX) (k : Nat) : Prop where
  calm : X.calm = true
  room : Room k X.A
  takes : Takes X W
  own : PassesOwn (model X.prog X.w) X.A X.env X.xe
  nd : X.N.Nodup

section
variable {X : Cx} {W : WX} {k : Nat} {a b c e : Expr} {da db dc d : D} {pos : Pos} {rest : List Expr} {t u : DT}
/-! ### comparisons -/
theorem de_lt (ha : DE X W a da) (hb : DE X W b db) : DE X W (.Compare a [.Lt] [b] pos) (dOp pyLt da db) := de_cmp op_lt od_lt ha hb (nomark _)
theorem de_le (ha : DE X W a da) (hb : DE X W b db) : DE X W (.Compare a [.LtE] [b] pos) (dOp pyLe da db) := de_cmp op_le od_le ha hb (nomark _)
theorem de_gt (ha : DE X W a da) (hb : DE X W b db) : DE X W (.Compare a [.Gt] [b] pos) (dOp pyGt da db) := de_cmp op_gt od_gt ha hb (nomark _)
theorem de_ge (ha : DE X W a da) (hb : DE X W b db) : DE X W (.Compare a [.GtE] [b] pos) (dOp pyGe da db) := de_cmp op_ge od_ge ha hb (nomark _)
theorem de_eq (G : Gd X W k) (ha : DE X W a da) (hb : DE X W b db) : DE X W (.Compare a [.Eq] [b] pos) (dOp pyEq da db) := de_cmp (op_eqD G.room.units) od_eq ha hb (nomark _)
theorem de_ne (G : Gd X W k) (ha : DE X W a da) (hb : DE X W b db) : DE X W (.Compare a [.NotEq] [b] pos) (dOp pyNe da db) := de_cmp (op_neD G.room.units) od_ne ha hb (nomark _)
theorem de_is (ha : DE X W a da) (hb : DE X W b db) : DE X W (.Compare a [.Is] [b] pos) (dOp pyIs da db) := de_cmp (op_isN.or op_isBl) od_is ha hb (nomark _)
theorem de_isnot (ha : DE X W a da) (hb : DE X W b db) : DE X W (.Compare a [.IsNot] [b] pos) (dOp pyIsNot da db) := de_cmp (op_notN.or op_notBl) od_isnot ha hb (nomark _)
theorem dt_lt (ha : DE X W a da) (hb : DE X W b db) : DTe X W (.Compare a [.Lt] [b] pos) (dBool (dOp pyLt da db)) := dt_cmp op_lt od_lt ha hb (nomark _)
theorem dt_le (ha : DE X W a da) (hb : DE X W b db) : DTe X W (.Compare a [.LtE] [b] pos) (dBool (dOp pyLe da db)) := dt_cmp op_le od_le ha hb (nomark _)
theorem dt_gt (ha : DE X W a da) (hb : DE X W b db) : DTe X W (.Compare a [.Gt] [b] pos) (dBool (dOp pyGt da db)) := dt_cmp op_gt od_gt ha hb (nomark _)
theorem dt_ge (ha : DE X W a da) (hb : DE X W b db) : DTe X W (.Compare a [.GtE] [b] pos) (dBool (dOp pyGe da db)) := dt_cmp op_ge od_ge ha hb (nomark _)
theorem dt_eq (G : Gd X W k) (ha : DE X W a da) (hb : DE X W b db) : DTe X W (.Compare a [.Eq] [b] pos) (dBool (dOp pyEq da db)) := dt_cmp (op_eqD G.room.units) od_eq ha hb (nomark _)
theorem dt_ne (G : Gd X W k) (ha : DE X W a da) (hb : DE X W b db) : DTe X W (.Compare a [.NotEq] [b] pos) (dBool (dOp pyNe da db)) := dt_cmp (op_neD G.room.units) od_ne ha hb (nomark _)
theorem dt_is (ha : DE X W a da) (hb : DE X W b db) : DTe X W (.Compare a [.Is] [b] pos) (dBool (dOp pyIs da db)) := dt_cmp (op_isN.or op_isBl) od_is ha hb (nomark _)
theorem dt_isnot (ha : DE X W a da) (hb : DE X W b db) : DTe X W (.Compare a [.IsNot] [b] pos) (dBool (dOp pyIsNot da db)) := dt_cmp (op_notN.or op_notBl) od_isnot ha hb (nomark _)

/-! ### chains a < b < c -/
def dChain (g g' : PyData → PyData → Option PyData) (a b c : D) : D := fun env => (a env).bind fun (v, e1) => (b e1).bind fun (w, e2) => (Out.of (g v w)).bind fun z => match z with
  | .bool true => (c e2).bind fun (u, e3) => (Out.of (g' w u)).bind fun r => .ok (r, e3)
  | .bool false => .ok (.bool false, e2)
  | _ => .stuck
theorem chain_end {r r' : R2} {g g' : PyData → PyData → Option PyData} {O0 : Addr → Prop} (od : OpD X.K r g) (od' : OpD X.K r' g') {env : En} {σ : L2.St} {H : Hp} {Q : VK} (ok : Ok X.K O0 env σ H)
    (q : EndE (Cx.pm X W O0) env σ H (fun v env' H' => ∀ p, Rp X.K (Al O0 env' σ) H' v p → Q p H') (dChain g g' da db dc env)) : tChain r r' (tD (Cx.pm X W O0) da) (tD (Cx.pm X W O0) db) (tD (Cx.pm X W O0) dc) σ H Q := by
  refine ⟨env, ok, EndE.bind q fun v e1 H1 s1 q1 p rp => ⟨e1, s1.ok, EndE.bind q1 fun w e2 H2 s2 q2 p2 rp2 => ?_⟩⟩
  cases hg : g v w with
  | none =>
    simp only [hg, Out.of_none, Out.bind_stuck] at q2
    exact (show False from q2).elim
  | some z =>
    simp only [hg, Out.of_some, Out.bind_ok] at q2
    refine od O0 e2 σ H2 v w z p p2 _ s2.ok (s2.step.rp s1.ok rp) rp2 hg fun H3 z3 s3 r3 => ?_
    cases z with
    | bool bb =>
      cases r3
      refine ⟨bb, rfl, ?_⟩
      cases bb with
      | false => exact q2 H3 s3 _ (.bl false)
      | true =>
        refine ⟨e2, s3.ok, EndE.bind (EndE.shift s3 q2) fun u e4 H4 s4 q4 p4 rp4 => ?_⟩
        cases hg' : g' w u with
        | none =>
          simp only [hg', Out.of_none, Out.bind_stuck] at q4
          exact (show False from q4).elim
        | some y =>
          simp only [hg', Out.of_some, Out.bind_ok] at q4
          exact od' O0 e4 σ H4 w u y p2 p4 Q s4.ok (s4.step.rp s3.ok (s3.step.rp s2.ok rp2)) rp4 hg' fun H5 p5 s5 r5 => q4 H5 s5 p5 r5
    | _ => exact (show False from q2).elim
theorem de_chain {op op' : CmpOp} {r r' : R2} {g g' : PyData → PyData → Option PyData} (ho : OpR X (compareOp op) r) (ho' : OpR X (compareOp op') r') (od : OpD X.K r g) (od' : OpD X.K r' g') (ha : DE X W a da) (hb : DE X W b db) (hc : DE X W c dc)
    (hm : lastMarks [op, op'] [b, c] = false := by with_unfolding_all rfl) : DE X W (.Compare a [op, op'] [b, c] pos) (dChain g g' da db dc) := fun O0 =>
  PE.imp (pe_chain ho ho' (ha O0) (hb O0) (hc O0) hm) fun σ H Q ⟨env, ok, q⟩ => chain_end od od' ok q
theorem dt_chain {op op' : CmpOp} {r r' : R2} {g g' : PyData → PyData → Option PyData} (ho : OpR X (compareOp op) r) (ho' : OpR X (compareOp op') r') (od : OpD X.K r g) (od' : OpD X.K r' g') (ha : DE X W a da) (hb : DE X W b db) (hc : DE X W c dc)
    (hm : lastMarks [op, op'] [b, c] = false := by with_unfolding_all rfl) : DTe X W (.Compare a [op, op'] [b, c] pos) (dBool (dChain g g' da db dc)) := fun O0 =>
  PT.imp (pt_chain ho ho' (ha O0) (hb O0) (hc O0) hm) fun σ H Q ⟨env, ok, q⟩ => chain_end od od' ok (EndE.bind q fun v e1 H1 s1 q1 p rp => by
    cases v with
    | bool b =>
      cases rp
      exact ⟨b, rfl, q1 H1 (StpE.refl s1.ok)⟩
    | _ => exact q1.elim)

/-! ### truth -/
def truth : PyData → Option Bool
  | .none => some false
  | .bool b => some b
  | .int i => some (i != 0)
  | .str x => if x.length ≤ sizeLine then some ((x.length : Int) != 0) else none
  | .list xs => some (!xs.isEmpty)
  | .tuple xs => some (!xs.isEmpty)
  | .dict _ => none
theorem rps_empty {K : PySem.W.Frag} {O : Addr → Prop} {H : Hp} {ds : List PyData} {ps : List V} (h : Rps K O H ds ps) : ds.isEmpty = ps.isEmpty := by cases h <;> rfl
theorem truth_ok {K : PySem.W.Frag} {O : Addr → Prop} {H : Hp} : ∀ {d : PyData} {v : V} {b : Bool}, Rp K O H d v → truth d = some b → TruV K v H b := by
  intro d v b r e
  cases r with
  | non => cases e; rfl
  | bl c => cases e; rfl
  | int i => cases e; rfl
  | str x =>
    replace e : (if x.length ≤ sizeLine then some ((x.length : Int) != 0) else none) = some b := e
    by_cases hx : x.length ≤ sizeLine
    · rw [if_pos hx] at e
      cases e
      exact ⟨hx, rfl⟩
    · rw [if_neg hx] at e
      cases e
  | lst h1 h2 h3 => cases e; exact .inl ⟨_, .inl (.inl h1), by rw [rps_empty h3]⟩
  | tup h1 h3 => cases e; exact .inr (.inl ⟨_, h1, by rw [rps_empty h3]⟩)
def dTruth (d : D) : DT := fun env => (d env).bind fun (v, e1) => (Out.of (truth v)).bind fun b => .ok (b, e1)
theorem truth_end {env : En} {σ : L2.St} {H : Hp} {O0 : Addr → Prop} {Q : Bool → Hp → Prop} (ok : Ok X.K O0 env σ H) (q : EndE (Cx.pm X W O0) env σ H (fun b _ H' => Q b H') (dTruth d env)) :
    EndE (Cx.pm X W O0) env σ H (fun v env' H' => ∀ p, Rp X.K (Al O0 env' σ) H' v p → ∃ k, TruV X.K p H' k ∧ Q k H') (d env) :=
  EndE.bind q fun v e1 H1 s1 q1 p rp => by
    cases hg : truth v with
    | none =>
      simp only [hg, Out.of_none, Out.bind_stuck] at q1
      exact (show False from q1).elim
    | some z =>
      simp only [hg, Out.of_some, Out.bind_ok] at q1
      exact ⟨z, truth_ok rp hg, q1 H1 (StpE.refl s1.ok)⟩
/-- any expression as a test by its value's truth -/
theorem dt_truth (ha : DE X W a da) (he : ∀ whole, isTrue a X.env whole = (do let v ← whole; standAt a.pos; holding [v] (truthy v)) := by intro _; rfl) : DTe X W a (dTruth da) := fun O0 =>
  PT.imp (pt_truth (ha O0) he) fun σ H Q ⟨env, ok, q⟩ => ⟨env, ok, truth_end ok q⟩

/-! ### and, or, not -/
def dAnd (t u : DT) : DT := fun env => (t env).bind fun (b, e1) => if b = true then u e1 else .ok (false, e1)
def dOr (t u : DT) : DT := fun env => (t env).bind fun (b, e1) => if b = true then .ok (true, e1) else u e1
def dNot (t : DT) : DT := fun env => (t env).bind fun (b, e1) => .ok (!b, e1)
theorem dw_and1 (ha : DTe X W a t) : DWe X W (.BoolOp .And [a] pos) t := fun O0 => pw_and1 (ha O0)
theorem dw_or1 (ha : DTe X W a t) : DWe X W (.BoolOp .Or [a] pos) t := fun O0 => pw_or1 (ha O0)
theorem dw_and (ha : DTe X W a t) (hb : DWe X W (.BoolOp .And (b :: rest) pos) u) : DWe X W (.BoolOp .And (a :: b :: rest) pos) (dAnd t u) := fun O0 =>
  PW.imp (pw_and (ha O0) (hb O0)) fun σ H Q ⟨env, ok, q⟩ => ⟨env, ok, EndE.bind q fun v e1 H1 s1 q1 => by
    cases v with
    | true => exact ⟨e1, s1.ok, q1⟩
    | false => exact q1 H1 (StpE.refl s1.ok)⟩
theorem dw_or (ha : DTe X W a t) (hb : DWe X W (.BoolOp .Or (b :: rest) pos) u) : DWe X W (.BoolOp .Or (a :: b :: rest) pos) (dOr t u) := fun O0 =>
  PW.imp (pw_or (ha O0) (hb O0)) fun σ H Q ⟨env, ok, q⟩ => ⟨env, ok, EndE.bind q fun v e1 H1 s1 q1 => by
    cases v with
    | false => exact ⟨e1, s1.ok, q1⟩
    | true => exact q1 H1 (StpE.refl s1.ok)⟩
theorem dt_w (h : DWe X W a t) : DTe X W a t := fun O0 => (h O0).pt
theorem dt_not (ha : DTe X W a t) : DTe X W (.UnaryOp .Not a pos) (dNot t) := fun O0 =>
  PT.imp (pt_not (ha O0)) fun σ H Q ⟨env, ok, q⟩ => ⟨env, ok, EndE.bind q fun v e1 H1 s1 q1 => q1 H1 (StpE.refl s1.ok)⟩
/-- .. as values -/
def dAndV (a b : D) : D := fun env => (a env).bind fun (v, e1) => (Out.of (truth v)).bind fun t => if t = true then b e1 else .ok (v, e1)
def dOrV (a b : D) : D := fun env => (a env).bind fun (v, e1) => (Out.of (truth v)).bind fun t => if t = true then .ok (v, e1) else b e1
def dNotV (a : D) : D := fun env => (a env).bind fun (v, e1) => (Out.of (truth v)).bind fun t => .ok (.bool (!t), e1)
theorem de_one {op} (h : DE X W a da) : DE X W (.BoolOp op [a] pos) da := fun O0 => pe_one (h O0)
theorem de_and (ha : DE X W a da) (hb : DE X W (.BoolOp .And (b :: rest) pos) db) : DE X W (.BoolOp .And (a :: b :: rest) pos) (dAndV da db) := fun O0 =>
  PE.imp (pe_andT (ha O0) (hb O0)) fun σ H Q ⟨env, ok, q⟩ => ⟨env, ok, EndE.bind q fun v e1 H1 s1 q1 p rp => by
    cases hg : truth v with
    | none =>
      simp only [hg, Out.of_none, Out.bind_stuck] at q1
      exact (show False from q1).elim
    | some z =>
      simp only [hg, Out.of_some, Out.bind_ok] at q1
      refine ⟨z, truth_ok rp hg, ?_⟩
      cases z with
      | true => exact ⟨e1, s1.ok, q1⟩
      | false => exact q1 H1 (StpE.refl s1.ok) p rp⟩
theorem de_or (ha : DE X W a da) (hb : DE X W (.BoolOp .Or (b :: rest) pos) db) : DE X W (.BoolOp .Or (a :: b :: rest) pos) (dOrV da db) := fun O0 =>
  PE.imp (pe_orT (ha O0) (hb O0)) fun σ H Q ⟨env, ok, q⟩ => ⟨env, ok, EndE.bind q fun v e1 H1 s1 q1 p rp => by
    cases hg : truth v with
    | none =>
      simp only [hg, Out.of_none, Out.bind_stuck] at q1
      exact (show False from q1).elim
    | some z =>
      simp only [hg, Out.of_some, Out.bind_ok] at q1
      refine ⟨z, truth_ok rp hg, ?_⟩
      cases z with
      | false => exact ⟨e1, s1.ok, q1⟩
      | true => exact q1 H1 (StpE.refl s1.ok) p rp⟩
theorem de_not (ha : DE X W a da) : DE X W (.UnaryOp .Not a pos) (dNotV da) := fun O0 =>
  PE.imp (pe_notT (ha O0)) fun σ H Q ⟨env, ok, q⟩ => ⟨env, ok, EndE.bind q fun v e1 H1 s1 q1 p rp => by
    cases hg : truth v with
    | none =>
      simp only [hg, Out.of_none, Out.bind_stuck] at q1
      exact (show False from q1).elim
    | some z =>
      simp only [hg, Out.of_some, Out.bind_ok] at q1
      exact ⟨z, truth_ok rp hg, q1 H1 (StpE.refl s1.ok) _ (.bl _)⟩⟩
def dIf (t : DT) (a b : D) : D := fun env => (t env).bind fun (v, e1) => if v = true then a e1 else b e1
theorem de_if (hc : DTe X W c t) (ha : DE X W a da) (hb : DE X W b db) : DE X W (.IfExp c a b pos) (dIf t da db) := fun O0 =>
  PE.imp (pe_ifExp (hc O0) (ha O0) (hb O0)) fun σ H Q ⟨env, ok, q⟩ => ⟨env, ok, EndE.bind q fun v e1 H1 s1 q1 => by
    cases v with
    | true => exact ⟨e1, s1.ok, q1⟩
    | false => exact ⟨e1, s1.ok, q1⟩⟩
def dNeg (a : D) : D := fun env => (a env).bind fun (v, e1) => match v with
  | .int i => .ok (.int (-i), e1)
  | _ => .stuck
theorem de_neg (ha : DE X W a da) : DE X W (.UnaryOp .USub a pos) (dNeg da) := fun O0 =>
  PE.imp (pe_un un_neg (ha O0)) fun σ H Q ⟨env, ok, q⟩ => ⟨env, ok, EndE.bind q fun v e1 H1 s1 q1 p rp => by
    cases v with
    | int i =>
      cases rp
      exact ⟨i, rfl, q1 H1 (StpE.refl s1.ok) _ (.int _)⟩
    | _ => exact (show False from q1).elim⟩

/-! ### displays -/
def dArgs : List D → DA
  | [] => dNil
  | d :: ds => dCons d (dArgs ds)
theorem dArgs_len : ∀ (ds : List D) (env : En) (vs : List PyData) (e' : En), dArgs ds env = .ok (vs, e') → vs.length = ds.length
  | [], env, vs, e', h => by
    cases h
    rfl
  | d :: ds, env, vs, e', h => by
    unfold dArgs dCons at h
    cases h1 : d env with
    | ok p =>
      obtain ⟨v, e1⟩ := p
      rw [h1] at h
      simp only [Out.bind_ok] at h
      cases h2 : dArgs ds e1 with
      | ok p =>
        obtain ⟨ws, e2⟩ := p
        rw [h2] at h
        simp only [Out.bind_ok] at h
        cases h
        simp [dArgs_len ds e1 ws _ h2]
      | ex c fs e2 => rw [h2] at h; cases h
      | stuck => rw [h2] at h; cases h
    | ex c fs e2 => rw [h1] at h; cases h
    | stuck => rw [h1] at h; cases h
def dTup (ds : List D) : D := fun env => (dArgs ds env).bind fun (vs, e1) => .ok (.tuple vs, e1)
def dLst (ds : List D) : D := fun env => (dArgs ds env).bind fun (vs, e1) => .ok (.list vs, e1)
theorem args_end {Y : Pm} {env : En} {σ : L2.St} {H : Hp} {ds : List D} {f : List PyData → D} {g : PyData → En → Hp → Prop} {g' : List PyData → En → Hp → Prop} (q : EndE Y env σ H g ((dArgs ds env).bind fun (vs, e1) => f vs e1))
    (i : ∀ vs e' H', vs.length = ds.length → StpE Y.K Y.O0 env σ H e' H' → EndE Y e' σ H' g (f vs e') → g' vs e' H') : EndE Y env σ H g' (dArgs ds env) := by
  cases h : dArgs ds env with
  | ok p =>
    obtain ⟨vs, e1⟩ := p
    rw [h] at q
    exact fun H' s => i vs e1 H' (dArgs_len _ _ _ _ h) s (EndE.shift s q)
  | ex c fs e1 => rw [h] at q; exact q
  | stuck => rw [h] at q; exact q
theorem de_tup {es : List Expr} {ds : List D} {x1} (h : DAs X W es (dArgs ds)) (hl : ds.length ≤ 1000 := by decide) : DE X W (.Tuple es x1 pos) (dTup ds) := fun O0 =>
  PE.imp (pe_tup (h O0)) fun σ H Q ⟨env, ok, q⟩ => ⟨env, ok, args_end (f := fun vs e1 => .ok (.tuple vs, e1)) q fun vs e1 H1 hv s1 q1 ps rps =>
    ⟨by rw [← rps.length, hv]; exact Nat.le_of_lt (small1000 hl), fun p hp => q1 _ (StpE.new s1.ok hp) _ (Rp.newT hp rps)⟩⟩
theorem de_lst {es : List Expr} {ds : List D} (h : DAs X W es (dArgs ds)) (hl : ds.length ≤ 1000 := by decide) : DE X W (.List es pos) (dLst ds) := fun O0 =>
  PE.imp (pe_lst (h O0)) fun σ H Q ⟨env, ok, q⟩ => ⟨env, ok, args_end (f := fun vs e1 => .ok (.list vs, e1)) q fun vs e1 H1 hv s1 q1 ps rps =>
    ⟨by rw [← rps.length, hv]; exact Nat.le_of_lt (small1000 hl), fun p hp => q1 _ (StpE.new s1.ok hp) _ (Rp.newL s1.ok hp rps)⟩⟩
end
end TL

/-! TL4: items, slices, calls of built-ins. -/
namespace TL
open PySem PySem.Spec PyProof.Rows L2

theorem rps_at {K : PySem.W.Frag} {O : Addr → Prop} {H : Hp} {ds : List PyData} {ps : List V} (h : Rps K O H ds ps) {i : Int} {d : PyData} (e : atI ds i = some d) : ∃ v, atI ps i = some v ∧ Rp K O H d v := by
  unfold atI at e ⊢
  rw [← h.length]
  cases hj : ixN ds.length i with
  | none => rw [hj] at e; cases e
  | some j =>
    rw [hj] at e
    exact h.get e
theorem atI_map {α β : Type} (f : α → β) (xs : List α) (i : Int) : atI (xs.map f) i = (atI xs i).map f := by
  unfold atI
  rw [List.length_map]
  cases ixN xs.length i with
  | none => rfl
  | some j => simp

/-! ### items -/
def pyIx : PyData → PyData → Option PyData
  | .tuple ds, .int i => atI ds i
  | .list ds, .int i => atI ds i
  | _, _ => none
theorem od_ix {K : PySem.W.Frag} : OpD K (fun x y H Q => rIxL K x y H Q ∨ rIxT K x y H Q) pyIx := fun O0 env σ H v w u p q Q ok rp rq e k => by
  unfold pyIx at e
  split at e
  · cases rq
    cases rp with
    | tup h1 h2 =>
      obtain ⟨z, e1, r⟩ := rps_at h2 e
      exact .inr ⟨_, _, _, z, rfl, rfl, h1, e1, k H z (StpE.refl ok) r⟩
  · cases rq
    cases rp with
    | lst h1 h1' h2 =>
      obtain ⟨z, e1, r⟩ := rps_at h2 e
      exact .inl ⟨_, _, _, z, rfl, rfl, .inl (.inl h1), e1, k H z (StpE.refl ok) r⟩
  · cases e
/-- what is read off a slot's list -/
def Sl.items : Sl → Option (List PyData)
  | .ow ds => some ds
  | .io ds => some ds
  | .sc ns => some (ns.map .int)
  | .pv _ => none
theorem rps_ints {K : PySem.W.Frag} {O : Addr → Prop} {H : Hp} : ∀ ns : List Int, Rps K O H (ns.map .int) (ns.map V.int)
  | [] => .nil
  | _ :: r => .cons (.int _) (rps_ints r)
theorem RS.items {K : PySem.W.Frag} {O : Addr → Prop} {H : Hp} {s : Sl} {v : V} {ds : List PyData} (r : RS K O H s v) (e : s.items = some ds) : ∃ a ps, v = .ref a ∧ SqL K H a ps ∧ Rps K O H ds ps := by
  cases s with
  | pv d => cases e
  | ow es => cases e; obtain ⟨a, ps, h1, h2, h3⟩ := r; exact ⟨a, ps, h1, .inl (.inl h2), h3⟩
  | io es => cases e; obtain ⟨a, ps, h1, h2, h3⟩ := r; exact ⟨a, ps, h1, .inl (.inl h2), h3⟩
  | sc ns => cases e; obtain ⟨a, h1, h2⟩ := r; exact ⟨a, _, h1, h2.sq, rps_ints ns⟩
/-- the list in slot i -/
def seqAt (env : En) (i : Nat) : Option (List PyData) := match env[i]? with
  | some (some s) => s.items
  | _ => none
theorem seqAt_ok {K : PySem.W.Frag} {O0 : Addr → Prop} {env : En} {σ : L2.St} {H : Hp} (ok : Ok K O0 env σ H) {i : Nat} {ds : List PyData} (e : seqAt env i = some ds) :
    ∃ a ps, σ[i]? = some (some (.ref a)) ∧ SqL K H a ps ∧ Rps K (Al O0 env σ) H ds ps := by
  unfold seqAt at e
  split at e
  · rename_i s es
    obtain ⟨v, ev, r⟩ := ok.val i s es
    obtain ⟨a, ps, rfl, h2, h3⟩ := r.items e
    exact ⟨a, ps, ev, h2, h3⟩
  · cases e

/-- x[e], x a list of a slot's own -/
def ixO : Option (List PyData) → PyData → Option PyData
  | some ds, .int j => atI ds j
  | _, _ => none
def dIxO (i : Nat) (b : D) : D := fun env => (Out.of (seqAt env i)).bind fun _ => (b env).bind fun (w, e1) => (Out.of (ixO (seqAt e1 i) w)).bind fun u => .ok (u, e1)
section
variable {X : Cx} {W : WX} {k : Nat} {a b c e : Expr} {da db dc d : D} {pos p : Pos} {x : Str}
theorem de_ix (ha : DE X W a da) (hb : DE X W b db) (hs : PlainIx b := by exact fun _ _ => rfl) : DE X W (.Subscript a b pos) (dOp pyIx da db) := fun O0 =>
  PE.imp (pe_ix (ix_list.or ix_tup) (ha O0) (hb O0) hs) fun σ H Q ⟨env, ok, q⟩ => op_end od_ix ok q
theorem de_ixO {i : Nat} (ha : PE X a (tVar i)) (hb : DE X W b db) (hs : PlainIx b := by exact fun _ _ => rfl) : DE X W (.Subscript a b pos) (dIxO i db) := fun O0 =>
  PE.imp (pe_ix ix_list ha (hb O0) hs) fun σ H Q ⟨env, ok, q⟩ => by
    obtain ⟨ds0, e0, q⟩ := EndE.of q
    obtain ⟨a0, ps0, es, _, _⟩ := seqAt_ok ok e0
    refine ⟨_, es, env, ok, EndE.bind q fun w e1 H1 s1 q1 p2 rp2 => ?_⟩
    obtain ⟨u, eu, q2⟩ := EndE.of q1
    clear q1
    cases e1s : seqAt e1 i with
    | none => rw [e1s] at eu; cases eu
    | some ds =>
      rw [e1s] at eu
      cases w with
      | int j =>
        obtain ⟨a1, ps, es1, h1, h2⟩ := seqAt_ok s1.ok e1s
        rw [es] at es1
        cases es1
        cases rp2
        obtain ⟨z, ez, rz⟩ := rps_at h2 eu
        exact ⟨_, _, _, z, rfl, rfl, h1, ez, q2 H1 (StpE.refl s1.ok) z rz⟩
      | _ => cases eu

/-! ### calls of built-ins -/
def CaD (K : PySem.W.Frag) (r : List V → Hp → VK → Prop) (g : List PyData → Option PyData) : Prop :=
  ∀ (O0 : Addr → Prop) (env : En) (σ : L2.St) (H : Hp) (vs : List PyData) (u : PyData) (ps : List V) (Q : VK), Ok K O0 env σ H → Rps K (Al O0 env σ) H vs ps → g vs = some u →
    (∀ H' p', StpE K O0 env σ H env H' → Rp K (Al O0 env σ) H' u p' → Q p' H') → r ps H Q
def dCB (g : List PyData → Option PyData) (ds : List D) : D := fun env => (dArgs ds env).bind fun (vs, e1) => (Out.of (g vs)).bind fun u => .ok (u, e1)
theorem cb_end {O0 : Addr → Prop} {r : List V → Hp → VK → Prop} {g : List PyData → Option PyData} {ds : List D} (cd : CaD X.K r g) {env : En} {σ : L2.St} {H : Hp} {Q : VK} (ok : Ok X.K O0 env σ H)
    (q : EndE (Cx.pm X W O0) env σ H (fun v env' H' => ∀ p, Rp X.K (Al O0 env' σ) H' v p → Q p H') (dCB g ds env)) : tCB r (tA (Cx.pm X W O0) (dArgs ds)) σ H Q := by
  refine ⟨env, ok, EndE.bind q fun vs e1 H1 s1 q1 ps rps => ?_⟩
  obtain ⟨u, hg, q1⟩ := EndE.of q1
  exact cd O0 e1 σ H1 vs u ps Q s1.ok rps hg fun H' p' s3 r3 => q1 H' s3 p' r3
theorem de_callB {es : List Expr} {ds : List D} {id : String} {r : List V → Hp → VK → Prop} {g : List PyData → Option PyData} (hc : CallR X (.builtin id) r) (cd : CaD X.K r g) (hv : bootBuiltins x = some (.builtin id)) (hm : X.mg x = none) (ha : DAs X W (e :: es) (dArgs ds)) (hg : Gl X x := by rfl) (hn : x ≠ "__name__" := by decide) (hdb : (x == ("__debug__" : Str)) = false := by decide)
    (he : starEach (e :: es) X.env = (false, eval e X.env) :: starEach es X.env := by rfl) (hpl : (backTo pos (starEach es X.env)).any (·.1) = false := by rfl) : DE X W (.Call (.Name x p) (e :: es) [] pos) (dCB g ds) := fun O0 =>
  PE.imp (pe_callB hc hg hm hv (ha O0) hn hdb he hpl) fun σ H Q ⟨env, ok, q⟩ => cb_end cd ok q
theorem de_callTy {es : List Expr} {ds : List D} {T : String} {r : List V → Hp → VK → Prop} {g : List PyData → Option PyData} (hc : CallR X (.type T) r) (cd : CaD X.K r g) (hv : bootBuiltins x = some (.type T)) (hm : X.mg x = none) (ha : DAs X W (e :: es) (dArgs ds)) (hg : Gl X x := by rfl) (hn : x ≠ "__name__" := by decide) (hdb : (x == ("__debug__" : Str)) = false := by decide)
    (he : starEach (e :: es) X.env = (false, eval e X.env) :: starEach es X.env := by rfl) (hpl : (backTo pos (starEach es X.env)).any (·.1) = false := by rfl) : DE X W (.Call (.Name x p) (e :: es) [] pos) (dCB g ds) := fun O0 =>
  PE.imp (pe_callTy hc hg hm hv (ha O0) hn hdb he hpl) fun σ H Q ⟨env, ok, q⟩ => cb_end cd ok q
/-- a function of the library (math.gcd) -/
theorem de_callF {es : List Expr} {ds : List D} {id : String} {r : List V → Hp → VK → Prop} {g : List PyData → Option PyData} (hc : CallR X (.builtin id) r) (cd : CaD X.K r g) (hm : X.mg x = some (.builtin id)) (ha : DAs X W (e :: es) (dArgs ds)) (hg : Gl X x := by rfl) (hdb : (x == ("__debug__" : Str)) = false := by decide)
    (he : starEach (e :: es) X.env = (false, eval e X.env) :: starEach es X.env := by rfl) (hpl : (backTo pos (starEach es X.env)).any (·.1) = false := by rfl) : DE X W (.Call (.Name x p) (e :: es) [] pos) (dCB g ds) := fun O0 =>
  PE.imp (pe_callBfun hc hg hm (ha O0) hdb he hpl) fun σ H Q ⟨env, ok, q⟩ => cb_end cd ok q

def pyLen : List PyData → Option PyData
  | [.tuple ds] => some (.int ds.length)
  | [.list ds] => some (.int ds.length)
  | [.str z] => if z.length ≤ sizeLine then some (.int z.length) else none
  | _ => none
theorem cd_len {K : PySem.W.Frag} : CaD K (fun xs H Q => (∃ p ys, xs = [.ref p] ∧ (SqL K H p ys ∨ SqT K H p ys) ∧ Q (.int ys.length) H) ∨ (∃ z, xs = [.str z] ∧ z.length ≤ sizeLine ∧ Q (.int z.length) H)) pyLen := fun O0 env σ H vs u ps Q ok rps e k => by
  unfold pyLen at e
  split at e
  · cases e
    cases rps with
    | cons h t => cases t; cases h with
      | tup h1 h2 => exact .inl ⟨_, _, rfl, .inr h1, k H _ (StpE.refl ok) (by rw [← h2.length]; exact .int _)⟩
  · cases e
    cases rps with
    | cons h t => cases t; cases h with
      | lst h1 h1' h2 => exact .inl ⟨_, _, rfl, .inl (.inl (.inl h1)), k H _ (StpE.refl ok) (by rw [← h2.length]; exact .int _)⟩
  · split at e
    · cases e
      cases rps with
      | cons h t => cases t; cases h with
        | str z => exact .inr ⟨_, rfl, by assumption, k H _ (StpE.refl ok) (.int _)⟩
    · cases e
  · cases e
theorem de_len {es : List D} (hm : X.mg "len" = none) (ha : DAs X W [a] (dArgs [da])) (hg : Gl X "len" := by rfl) (he : starEach [a] X.env = (false, eval a X.env) :: starEach [] X.env := by rfl) (hpl : (backTo pos (starEach [] X.env)).any (·.1) = false := by rfl) :
    DE X W (.Call (.Name "len" p) [a] [] pos) (dCB pyLen [da]) := de_callB (call_len_seq.or call_len_str) cd_len boot_len hm ha hg (by decide) (by decide) he hpl
/-- len(x), x a list of a slot's own -/
def dLenO (i : Nat) : D := fun env => (Out.of (seqAt env i)).bind fun ds => .ok (.int ds.length, env)
theorem de_lenO {i : Nat} (hm : X.mg "len" = none) (ha : PE X a (tVar i)) (hg : Gl X "len" := by rfl) (he : starEach [a] X.env = (false, eval a X.env) :: starEach [] X.env := by rfl) (hpl : (backTo pos (starEach [] X.env)).any (·.1) = false := by rfl) :
    DE X W (.Call (.Name "len" p) [a] [] pos) (dLenO i) := fun O0 =>
  PE.imp (pe_callB call_len_seq hg hm boot_len (pa_cons ha pa_nil he) (by decide) (by decide) he hpl) fun σ H Q ⟨env, ok, q⟩ => by
    obtain ⟨ds, e0, q⟩ := EndE.of q
    obtain ⟨a0, ps0, es, h1, h2⟩ := seqAt_ok ok e0
    refine ⟨_, es, a0, ps0, rfl, .inl h1, q H (StpE.refl ok) _ ?_⟩
    rw [← h2.length]
    exact .int _

def pyInt : List PyData → Option PyData
  | [.int i] => some (.int i)
  | [.bool b] => some (.int (if b then 1 else 0))
  | _ => none
theorem cd_int {K : PySem.W.Frag} : CaD K (fun xs H Q => (∃ i, xs = [.int i] ∧ Q (.int i) H) ∨ ∃ k, xs = [.bl k] ∧ Q (.int (if k then 1 else 0)) H) pyInt := fun O0 env σ H vs u ps Q ok rps e k => by
  unfold pyInt at e
  split at e
  · cases e
    cases rps with
    | cons h t => cases t; cases h; exact .inl ⟨_, rfl, k H _ (StpE.refl ok) (.int _)⟩
  · cases e
    cases rps with
    | cons h t => cases t; cases h; exact .inr ⟨_, rfl, k H _ (StpE.refl ok) (.int _)⟩
  · cases e
theorem de_intC (hm : X.mg "int" = none) (ha : DAs X W [a] (dArgs [da])) (hg : Gl X "int" := by rfl) (he : starEach [a] X.env = (false, eval a X.env) :: starEach [] X.env := by rfl) (hpl : (backTo pos (starEach [] X.env)).any (·.1) = false := by rfl) :
    DE X W (.Call (.Name "int" p) [a] [] pos) (dCB pyInt [da]) := de_callTy call_int1 cd_int (by decide +kernel) hm ha hg (by decide) (by decide) he hpl

def pyMax2 : List PyData → Option PyData
  | [.int i, .int j] => some (.int (if j > i then j else i))
  | _ => none
def pyMin2 : List PyData → Option PyData
  | [.int i, .int j] => some (.int (if j < i then j else i))
  | _ => none
def pyGcd : List PyData → Option PyData
  | [.int i, .int j] => some (.int (Nat.gcd i.natAbs j.natAbs : Nat))
  | _ => none
def pyAbs : List PyData → Option PyData
  | [.int i] => some (.int (if i < 0 then -i else i))
  | _ => none
theorem cd_2 {K : PySem.W.Frag} {f : Int → Int → Int} {g : List PyData → Option PyData} (hg : ∀ vs u, g vs = some u → ∃ i j, vs = [.int i, .int j] ∧ u = .int (f i j)) : CaD K (fun xs H Q => ∃ i j, xs = [.int i, .int j] ∧ Q (.int (f i j)) H) g := fun O0 env σ H vs u ps Q ok rps e k => by
  obtain ⟨i, j, rfl, rfl⟩ := hg vs u e
  cases rps with
  | cons h t => cases h; cases t with
    | cons h t => cases h; cases t; exact ⟨i, j, rfl, k H _ (StpE.refl ok) (.int _)⟩
theorem cd_abs {K : PySem.W.Frag} : CaD K (fun xs H Q => ∃ i, xs = [.int i] ∧ Q (.int (if i < 0 then -i else i)) H) pyAbs := fun O0 env σ H vs u ps Q ok rps e k => by
  unfold pyAbs at e
  split at e
  · cases e
    cases rps with
    | cons h t => cases t; cases h; exact ⟨_, rfl, k H _ (StpE.refl ok) (.int _)⟩
  · cases e
theorem de_max2 (G : Gd X W k) (hm : X.mg "max" = none) (ha : DAs X W [a, b] (dArgs [da, db])) (hg : Gl X "max" := by rfl) (he : starEach [a, b] X.env = (false, eval a X.env) :: starEach [b] X.env := by rfl) (hpl : (backTo pos (starEach [b] X.env)).any (·.1) = false := by rfl) :
    DE X W (.Call (.Name "max" p) [a, b] [] pos) (dCB pyMax2 [da, db]) := de_callB (call_max2 G.calm) (cd_2 fun vs u e => by unfold pyMax2 at e; split at e <;> cases e; exact ⟨_, _, rfl, rfl⟩) (by decide +kernel) hm ha hg (by decide) (by decide) he hpl
theorem de_min2 (G : Gd X W k) (hm : X.mg "min" = none) (ha : DAs X W [a, b] (dArgs [da, db])) (hg : Gl X "min" := by rfl) (he : starEach [a, b] X.env = (false, eval a X.env) :: starEach [b] X.env := by rfl) (hpl : (backTo pos (starEach [b] X.env)).any (·.1) = false := by rfl) :
    DE X W (.Call (.Name "min" p) [a, b] [] pos) (dCB pyMin2 [da, db]) := de_callB (call_min2 G.calm) (cd_2 fun vs u e => by unfold pyMin2 at e; split at e <;> cases e; exact ⟨_, _, rfl, rfl⟩) (by decide +kernel) hm ha hg (by decide) (by decide) he hpl
theorem de_abs (hm : X.mg "abs" = none) (ha : DAs X W [a] (dArgs [da])) (hg : Gl X "abs" := by rfl) (he : starEach [a] X.env = (false, eval a X.env) :: starEach [] X.env := by rfl) (hpl : (backTo pos (starEach [] X.env)).any (·.1) = false := by rfl) :
    DE X W (.Call (.Name "abs" p) [a] [] pos) (dCB pyAbs [da]) := de_callB call_abs cd_abs (by decide +kernel) hm ha hg (by decide) (by decide) he hpl
theorem de_gcd (hm : X.mg "gcd" = some (.builtin "math.gcd")) (ha : DAs X W [a, b] (dArgs [da, db])) (hg : Gl X "gcd" := by rfl) (he : starEach [a, b] X.env = (false, eval a X.env) :: starEach [b] X.env := by rfl) (hpl : (backTo pos (starEach [b] X.env)).any (·.1) = false := by rfl) :
    DE X W (.Call (.Name "gcd" p) [a, b] [] pos) (dCB pyGcd [da, db]) := de_callF cr_gcd (cd_2 (f := fun i j => ((Nat.gcd i.natAbs j.natAbs : Nat) : Int)) fun vs u e => by unfold pyGcd at e; split at e <;> cases e; exact ⟨_, _, rfl, rfl⟩) hm ha hg (by decide) he hpl

/-! ### isinstance -/
def tyS : PyData → String
  | .none => "NoneType"
  | .bool _ => "bool"
  | .int _ => "int"
  | .str _ => "str"
  | .list _ => "list"
  | .tuple _ => "tuple"
  | .dict _ => "dict"
theorem rp_ty {K : PySem.W.Frag} {O : Addr → Prop} {H : Hp} : ∀ {d : PyData} {v : V}, Rp K O H d v → TyX K H v (.type (tyS d)) := by
  intro d v r
  cases r with
  | non => exact .base .non
  | bl b => exact .base (.bl b)
  | int i => exact .base (.int i)
  | str x => exact .base (.str x)
  | lst h1 h2 h3 => exact .base (.lst h1)
  | tup h1 h3 =>
    rcases h1 with (h | ⟨o, h⟩) | ⟨o, its, n, h, hc, _⟩
    · exact .base (.tup h)
    · exact .fTuple h
    · exact .kTuple h hc
/-- what isinstance(d, T) answers -/
def isA (T : String) (d : PyData) : Option Bool := kitB (tyS d) T
def dIsA (T : String) (d : D) : D := fun env => (d env).bind fun (v, e1) => (Out.of (isA T v)).bind fun b => .ok (.bool b, e1)
theorem pe_ty {x : Str} {T : String} {pos : Pos} (hg : Gl X x) (hm : X.mg x = none) (hv : bootBuiltins x = some (.type T)) (hn : x ≠ "__name__" := by decide) (hd : (x == ("__debug__" : Str)) = false := by decide) : PE X (.Name x pos) (tC (.ty T)) := pe_bltn hg hm hv rfl hn hd
theorem de_isA {T : String} (hmi : X.mg "isinstance" = none) (ha : DE X W a da) (ht : PE X b (tC (.ty T))) (hg : Gl X "isinstance" := by rfl) (he : starEach [a, b] X.env = (false, eval a X.env) :: starEach [b] X.env := by rfl) (he2 : starEach [b] X.env = (false, eval b X.env) :: starEach [] X.env := by rfl) (hpl : (backTo pos (starEach [b] X.env)).any (·.1) = false := by rfl) :
    DE X W (.Call (.Name "isinstance" p) [a, b] [] pos) (dIsA T da) := fun O0 =>
  PE.imp (pe_callB call_isi hg hmi (by decide +kernel) (pa_cons (ha O0) (pa_cons ht pa_nil he2) he) (by decide) (by decide) he hpl) fun σ H Q ⟨env, ok, q⟩ => ⟨env, ok, EndE.bind q fun v e1 H1 s1 q1 p rp => by
    obtain ⟨bb, eb, q1⟩ := EndE.of q1
    exact ⟨p, .ty T, _, _, bb, rfl, .ty T, rp_ty rp, kit_ty eb, q1 H1 (StpE.refl s1.ok) _ (.bl _)⟩⟩
/-- isinstance(d, (T1, T2)) -/
def kitL : List String → String → Option Bool
  | [], _ => some false
  | T :: r, t => match kitB t T with
    | some true => some true
    | some false => kitL r t
    | none => none
theorem kitL_ok {K : PySem.W.Frag} {t : String} : ∀ {Ts : List String} {b : Bool}, kitL Ts t = some b → PySem.W.kitAny K (.type t) (Ts.map .type) = some b
  | [], b, h => by
    cases h
    exact kitAny_nil
  | T :: r, b, h => by
    unfold kitL at h
    cases hk : kitB t T with
    | none => rw [hk] at h; cases h
    | some c =>
      rw [hk] at h
      cases c with
      | true =>
        cases h
        exact kitAny_cons (kit_ty hk) (fun z => nomatch z) fun _ => rfl
      | false => exact kitAny_cons (kit_ty hk) (fun _ => kitL_ok h) fun z => nomatch z
def dIsAny (Ts : List String) (d : D) : D := fun env => (d env).bind fun (v, e1) => (Out.of (kitL Ts (tyS v))).bind fun b => .ok (.bool b, e1)
/-- the types of a tuple that is written there -/
def PTys (X : Cx) (es : List Expr) (Ts : List String) : Prop := PA X es (fun _ H Q => Q (Ts.map V.ty) H)
theorem ptys_nil : PTys X [] [] := PA.imp pa_nil fun _ _ _ q => q
theorem ptys_cons {es : List Expr} {T : String} {Ts : List String} (h : PE X e (tC (.ty T))) (r : PTys X es Ts) (hs : starEach (e :: es) X.env = (false, eval e X.env) :: starEach es X.env := by rfl) : PTys X (e :: es) (T :: Ts) := PA.imp (pa_cons h r hs) fun _ _ _ q => q
theorem clsv_all : ∀ Ts : List String, Paired ClsV (Ts.map V.ty) (Ts.map Value.type)
  | [] => .nil
  | T :: r => .cons (.ty T) (clsv_all r)
theorem de_isAny {Ts : List String} {es : List Expr} {k1 : Nat} {p1 : Pos} (hmi : X.mg "isinstance" = none) (ha : DE X W a da) (ht : PTys X es Ts) (hl : Ts.length ≤ 1000 := by decide) (hg : Gl X "isinstance" := by rfl) (he : starEach [a, .Tuple es k1 p1] X.env = (false, eval a X.env) :: starEach [.Tuple es k1 p1] X.env := by rfl) (he2 : starEach [.Tuple es k1 p1] X.env = (false, eval (.Tuple es k1 p1) X.env) :: starEach [] X.env := by rfl) (hpl : (backTo pos (starEach [.Tuple es k1 p1] X.env)).any (·.1) = false := by rfl) :
    DE X W (.Call (.Name "isinstance" p) [a, .Tuple es k1 p1] [] pos) (dIsAny Ts da) := fun O0 =>
  PE.imp (pe_callB call_isiT hg hmi (by decide +kernel) (pa_cons (ha O0) (pa_cons (pe_tup ht) pa_nil he2) he) (by decide) (by decide) he hpl) fun σ H Q ⟨env, ok, q⟩ => ⟨env, ok, EndE.bind q fun v e1 H1 s1 q1 p rp => by
    obtain ⟨bb, eb, q1⟩ := EndE.of q1
    refine ⟨by rw [List.length_map]; exact Nat.le_of_lt (small1000 hl), fun tp hp => ?_⟩
    have s2 := StpE.new (o := .tup (Ts.map V.ty)) s1.ok hp
    exact ⟨p, tp, _, _, _, bb, rfl, upd_same, clsv_all Ts, rp_ty (s2.step.rp s1.ok rp), kitL_ok eb, q1 _ s2 _ (.bl _)⟩⟩
end
end TL

/-! TL5: statements. -/
namespace TL
open PySem PySem.Spec PyProof.Rows L2

inductive OutS where
  | nx (env : En)
  | rt (v : PyData) (env : En)
  | rl (ds : List PyData) (env : En)
  | bk (env : En)
  | ct (env : En)
  | ex (c : Str) (fs : List (Str × PyData)) (env : En)
  | stuck
abbrev DS := En → OutS

/-- these addresses and one more -/
def With (O0 : Addr → Prop) (a : Addr) : Addr → Prop := fun b => O0 b ∨ b = a
/-- a new list that nothing else speaks of -/
structure Fresh (K : PySem.W.Frag) (O0 : Addr → Prop) (H : Hp) (env' : En) (σ' : L2.St) (H' : Hp) (a : Addr) (ds : List PyData) (ps : List V) : Prop where
  new : H a = none
  ok : Ok K (With O0 a) env' σ' H'
  at' : H' a = some (.lst ps)
  rps : Rps K (Al (With O0 a) env' σ') H' ds ps
def EndS (Y : Pm) (env : En) (σ : L2.St) (H : Hp) (Dn : Ends) : OutS → Prop
  | .nx env' => ∀ σ' H', Stp Y.K Y.O0 env σ H env' σ' H' → Dn.nx σ' H'
  | .rt v env' => ∀ σ' H' p, Stp Y.K Y.O0 env σ H env' σ' H' → Rp Y.K (Al Y.O0 env' σ') H' v p → Dn.rt p H'
  | .rl ds env' => ∀ σ' H' a ps, Stp Y.K Y.O0 env σ H env' σ' H' → Fresh Y.K Y.O0 H env' σ' H' a ds ps → Dn.rt (.ref a) H'
  | .bk env' => ∀ σ' H', Stp Y.K Y.O0 env σ H env' σ' H' → Dn.bk σ' H'
  | .ct env' => ∀ σ' H', Stp Y.K Y.O0 env σ H env' σ' H' → Dn.ct σ' H'
  | .ex c fs env' => ∀ σ' H' cls d, Stp Y.K Y.O0 env σ H env' σ' H' → XRep Y.mg Y.K (Al Y.O0 env' σ') H' c fs cls d → Y.W cls d σ' H'
  | .stuck => False
def tS (Y : Pm) (d : DS) : TS := fun Dn σ H => ∃ env, Ok Y.K Y.O0 env σ H ∧ EndS Y env σ H Dn (d env)
def DSt (X : Cx) (W : WX) (st : Stmt) (d : DS) : Prop := ∀ O0, PS X st (tS (Cx.pm X W O0) d)
def DSs (X : Cx) (W : WX) (sts : List Stmt) (d : DS) : Prop := ∀ O0, PSs X sts (tS (Cx.pm X W O0) d)

def OutS.then (o : OutS) (f : DS) : OutS := match o with
  | .nx env => f env
  | o => o
@[simp] theorem OutS.then_nx (env : En) (f : DS) : (OutS.nx env).then f = f env := rfl
@[simp] theorem OutS.then_rt (v : PyData) (env : En) (f : DS) : (OutS.rt v env).then f = .rt v env := rfl
@[simp] theorem OutS.then_rl (v : List PyData) (env : En) (f : DS) : (OutS.rl v env).then f = .rl v env := rfl
@[simp] theorem OutS.then_bk (env : En) (f : DS) : (OutS.bk env).then f = .bk env := rfl
@[simp] theorem OutS.then_ct (env : En) (f : DS) : (OutS.ct env).then f = .ct env := rfl
@[simp] theorem OutS.then_ex (c : Str) (fs : List (Str × PyData)) (env : En) (f : DS) : (OutS.ex c fs env).then f = .ex c fs env := rfl
@[simp] theorem OutS.then_stuck (f : DS) : OutS.stuck.then f = .stuck := rfl
/-- an expression, then a statement's end -/
def Out.goS {α : Type} (o : Out (α × En)) (f : α → En → OutS) : OutS := match o with
  | .ok (v, e1) => f v e1
  | .ex c fs env => .ex c fs env
  | .stuck => .stuck
@[simp] theorem Out.goS_ok {α : Type} (v : α) (e1 : En) (f : α → En → OutS) : (Out.ok (v, e1)).goS f = f v e1 := rfl
@[simp] theorem Out.goS_ex {α : Type} (c : Str) (fs : List (Str × PyData)) (env : En) (f : α → En → OutS) : (Out.ex c fs env : Out (α × En)).goS f = .ex c fs env := rfl
@[simp] theorem Out.goS_stuck {α : Type} (f : α → En → OutS) : (Out.stuck : Out (α × En)).goS f = .stuck := rfl
def Out.ofS {β : Type} (o : Option β) (f : β → OutS) : OutS := match o with
  | some u => f u
  | none => .stuck
@[simp] theorem Out.ofS_some {β : Type} (u : β) (f : β → OutS) : Out.ofS (some u) f = f u := rfl
@[simp] theorem Out.ofS_none {β : Type} (f : β → OutS) : Out.ofS none f = .stuck := rfl

section
variable {Y : Pm} {env env1 : En} {σ σ1 : L2.St} {H H1 : Hp} {α β : Type} {Dn : Ends}
theorem EndS.shift {o : OutS} (s : Stp Y.K Y.O0 env σ H env1 σ1 H1) (h : EndS Y env σ H Dn o) : EndS Y env1 σ1 H1 Dn o := by
  cases o with
  | nx e => exact fun σ' H' s' => h σ' H' (s.trans s')
  | rt v e => exact fun σ' H' p s' r => h σ' H' p (s.trans s') r
  | rl v e => exact fun σ' H' a ps s' n => h σ' H' a ps (s.trans s') ⟨by
      cases q : H a with
      | none => rfl
      | some o => exact absurd n.new (s.dom a (by rw [q]; intro z; cases z)), n.ok, n.at', n.rps⟩
  | bk e => exact fun σ' H' s' => h σ' H' (s.trans s')
  | ct e => exact fun σ' H' s' => h σ' H' (s.trans s')
  | ex c fs e => exact fun σ' H' cls d s' r => h σ' H' cls d (s.trans s') r
  | stuck => exact h
theorem EndE.goS {o : Out (α × En)} {f : α → En → OutS} (q : EndS Y env σ H Dn (o.goS f)) {g : α → En → Hp → Prop}
    (i : ∀ v e' H', StpE Y.K Y.O0 env σ H e' H' → EndS Y e' σ H' Dn (f v e') → g v e' H') : EndE Y env σ H g o := by
  cases o with
  | ok p => obtain ⟨v, e'⟩ := p; exact fun H' s => i v e' H' s (EndS.shift s.step q)
  | ex c fs e' => exact fun H' cls d s r => q σ H' cls d s.step r
  | stuck => exact q
theorem EndS.of {o : Option β} {f : β → OutS} (q : EndS Y env σ H Dn (Out.ofS o f)) : ∃ u, o = some u ∧ EndS Y env σ H Dn (f u) := by
  cases o with
  | none => exact (show False from q).elim
  | some u => exact ⟨u, rfl, q⟩
end

def dPass : DS := fun env => .nx env
def dSeq (a b : DS) : DS := fun env => (a env).then b
section
variable {X : Cx} {W : WX} {k : Nat} {st : Stmt} {rest : List Stmt} {d1 d2 : DS} {e a b c : Expr} {d da db : D} {pos p : Pos} {x : Str}
theorem dss_nil : DSs X W [] dPass := fun O0 => PSs.imp pss_nil fun Dn σ H ⟨env, ok, q⟩ => q σ H (Stp.refl ok)
theorem dss_cons (h1 : DSt X W st d1) (h2 : DSs X W rest d2) : DSs X W (st :: rest) (dSeq d1 d2) := fun O0 =>
  PSs.imp (pss_cons (h1 O0) (h2 O0)) fun Dn σ H ⟨env, ok, q⟩ => ⟨env, ok, by
    unfold dSeq at q
    cases h : d1 env with
    | nx e1 => rw [h] at q; exact fun σ' H' s => ⟨e1, s.ok, EndS.shift s q⟩
    | rt v e1 => rw [h] at q; exact q
    | rl v e1 => rw [h] at q; exact q
    | bk e1 => rw [h] at q; exact q
    | ct e1 => rw [h] at q; exact q
    | ex c fs e1 => rw [h] at q; exact q
    | stuck => rw [h] at q; exact q⟩
theorem dss_one (h1 : DSt X W st d1) : DSs X W [st] d1 := fun O0 => pss_one (h1 O0)
theorem ds_pass : DSt X W (.Pass pos) dPass := fun O0 => PS.imp ps_pass fun Dn σ H ⟨env, ok, q⟩ => q σ H (Stp.refl ok)
def dBreak : DS := fun env => .bk env
def dCont : DS := fun env => .ct env
theorem ds_break : DSt X W (.Break pos) dBreak := fun O0 => PS.imp ps_break fun Dn σ H ⟨env, ok, q⟩ => q σ H (Stp.refl ok)
theorem ds_cont : DSt X W (.Continue pos) dCont := fun O0 => PS.imp ps_continue fun Dn σ H ⟨env, ok, q⟩ => q σ H (Stp.refl ok)
theorem ds_doc {x j pos pos'} : DSt X W (.Expr (.Constant (.str x) j pos) pos') dPass := fun O0 => PS.imp ps_doc fun Dn σ H ⟨env, ok, q⟩ => q σ H (Stp.refl ok)
def dExpr (d : D) : DS := fun env => (d env).goS fun _ e1 => .nx e1
theorem ds_expr (he : DE X W e d) (hs : swapsWith e none pos.line X.env = pure false := by rfl) : DSt X W (.Expr e pos) (dExpr d) := fun O0 =>
  PS.imp (ps_expr (he O0) hs) fun Dn σ H ⟨env, ok, q⟩ => ⟨env, ok, EndE.goS q fun v e1 H1 s1 q1 p rp => q1 σ H1 (Stp.refl s1.ok)⟩
def dRet (d : D) : DS := fun env => (d env).goS fun v e1 => .rt v e1
theorem ds_ret (he : DE X W e d) : DSt X W (.Return (some e) pos) (dRet d) := fun O0 =>
  PS.imp (ps_ret (he O0)) fun Dn σ H ⟨env, ok, q⟩ => ⟨env, ok, EndE.goS q fun v e1 H1 s1 q1 p rp => q1 σ H1 p (Stp.refl s1.ok) rp⟩
def dRetN : DS := fun env => .rt .none env
theorem ds_retN : DSt X W (.Return none pos) dRetN := fun O0 =>
  PS.imp ps_retN fun Dn σ H ⟨env, ok, q⟩ => q σ H _ (Stp.refl ok) .non
def dIfS (t : DT) (a b : DS) : DS := fun env => (t env).goS fun v e1 => if v = true then a e1 else b e1
theorem ds_if {t : DT} {p q : List Stmt} (hc : DTe X W c t) (ha : DSs X W p d1) (hb : DSs X W q d2) : DSt X W (.If c p q pos) (dIfS t d1 d2) := fun O0 =>
  PS.imp (ps_if (hc O0) (ha O0) (hb O0)) fun Dn σ H ⟨env, ok, q⟩ => ⟨env, ok, EndE.goS q fun v e1 H1 s1 q1 => by
    cases v with
    | true => exact ⟨e1, s1.ok, q1⟩
    | false => exact ⟨e1, s1.ok, q1⟩⟩

/-! ### a slot is given a value -/
/-- may slot i be given another content -/
def free? (env : En) (i : Nat) : Bool := match env[i]? with
  | some none => true
  | some (some (.pv _)) => true
  | some (some (.ow _)) => true
  | _ => false
def setPv (env : En) (i : Nat) (v : PyData) : Option En := if free? env i = true then some (env.set i (some (.pv v))) else none
theorem set_own {env : En} {σ : L2.St} {i : Nat} {p : V} {s : Sl} {a : Addr} (h : Own (env.set i (some s)) (σ.set i (some p)) a) :
    (s.mut = true ∧ p = .ref a ∧ i < env.length) ∨ (∃ j t, j ≠ i ∧ env[j]? = some (some t) ∧ t.mut = true ∧ σ[j]? = some (some (.ref a))) := by
  obtain ⟨j, t, hj, m, hs⟩ := h
  by_cases hij : i = j
  · subst hij
    by_cases hl : i < env.length
    · rw [List.getElem?_set_self hl] at hj
      have e1 : s = t := Option.some.inj (Option.some.inj hj)
      subst e1
      by_cases hl2 : i < σ.length
      · rw [List.getElem?_set_self hl2] at hs
        exact .inl ⟨m, Option.some.inj (Option.some.inj hs), hl⟩
      · rw [List.getElem?_eq_none (by simpa using hl2)] at hs
        cases hs
    · rw [List.getElem?_eq_none (by simpa using hl)] at hj
      cases hj
  · rw [List.getElem?_set_ne hij] at hj hs
    exact .inr ⟨j, t, fun z => hij z.symm, hj, m, hs⟩
theorem get_set2 {env : En} {σ : L2.St} {i j : Nat} {s t : Sl} {p : V} (hl : env.length = σ.length) (h : (env.set i (some s))[j]? = some (some t)) :
    (j = i ∧ t = s ∧ (σ.set i (some p))[j]? = some (some p)) ∨ (j ≠ i ∧ env[j]? = some (some t) ∧ (σ.set i (some p))[j]? = σ[j]?) := by
  rcases get_set h with ⟨h1, h2⟩ | ⟨h1, h2⟩
  · subst h1
    have hi : i < env.length := by
      by_cases hi : i < env.length
      · exact hi
      · rw [List.getElem?_eq_none (by simpa using hi)] at h
        cases h
    exact .inl ⟨rfl, (Option.some.inj h2).symm, List.getElem?_set_self (by omega)⟩
  · exact .inr ⟨fun z => h1 z.symm, h2, List.getElem?_set_ne h1⟩
theorem RS.goes {K : PySem.W.Frag} {O O' : Addr → Prop} {H H' : Hp} (g : Goes K O H O' H') (hm : ∀ a xs, H a = some (.lst xs) → H' a = some (.lst xs)) (hs : ∀ a (ns : List Int), SqS K H a (ns.map V.int) → SqS K H' a (ns.map V.int)) : ∀ {s : Sl} {v : V}, RS K O H s v → RS K O' H' s v
  | .pv d, v, r => Rp.goes g d v r
  | .ow ds, v, ⟨a, ps, h1, h2, h3⟩ => ⟨a, ps, h1, hm _ _ h2, Rps.goes g _ _ h3⟩
  | .io ds, v, ⟨a, ps, h1, h2, h3⟩ => ⟨a, ps, h1, hm _ _ h2, Rps.goes g _ _ h3⟩
  | .sc ns, v, ⟨a, h1, h2⟩ => ⟨a, h1, hs _ _ h2⟩
theorem free_io {env : En} {i : Nat} (hf : free? env i = true) {ds : List PyData} : env[i]? ≠ some (some (Sl.io ds)) := fun e => by
  unfold free? at hf
  rw [e] at hf
  cases hf
/-- a value is stored -/
theorem Stp.setPv {K : PySem.W.Frag} {O0 : Addr → Prop} {env : En} {σ : L2.St} {H : Hp} (ok : Ok K O0 env σ H) {i : Nat} {v : PyData} {p : V} (hf : free? env i = true) (r : Rp K (Al O0 env σ) H v p) :
    Stp K O0 env σ H (env.set i (some (.pv v))) (σ.set i (some p)) H := by
  have le : ∀ a, Own (env.set i (some (.pv v))) (σ.set i (some p)) a → Own env σ a := fun a h => by
    rcases set_own h with ⟨m, _⟩ | ⟨j, t, _, h1, h2, h3⟩
    · cases m
    · exact ⟨j, t, h1, h2, h3⟩
  have g : Goes K (Al O0 env σ) H (Al O0 (env.set i (some (.pv v))) (σ.set i (some p))) H := ⟨fun c xs h n => ⟨h, fun z => n (z.elim .inl fun z => .inr (le c z))⟩, fun c xs h => h⟩
  refine ⟨⟨by rw [List.length_set, List.length_set]; exact ok.len, fun j s hj => ?_, fun j l s t a hj ms hl mt h1 h2 => ?_, ok.lst, fun a h => ok.dis a (le a h)⟩, fun _ _ h _ => h, fun _ h => h, fun a h => .inl (le a h), fun j ds hj => ?_⟩
  · rcases get_set2 (p := p) ok.len hj with ⟨h1, h2, h3⟩ | ⟨h1, h2, h3⟩
    · subst h2
      exact ⟨p, h3, Rp.goes g _ _ r⟩
    · obtain ⟨w, ew, rw'⟩ := ok.val j s h2
      exact ⟨w, h3.trans ew, RS.goes g (fun _ _ h => h) (fun _ _ h => h) rw'⟩
  · rcases get_set2 (p := p) ok.len hj with ⟨_, h2', _⟩ | ⟨_, h2', h3⟩
    · subst h2'
      cases ms
    · rcases get_set2 (p := p) ok.len hl with ⟨_, h4', _⟩ | ⟨_, h4', h5⟩
      · subst h4'
        cases mt
      · exact ok.inj j l s t a h2' ms h4' mt (h3.symm.trans h1) (h5.symm.trans h2)
  · have hij : i ≠ j := fun z => free_io hf (z ▸ hj)
    exact ⟨⟨ds, by rw [List.getElem?_set_ne hij]; exact hj⟩, List.getElem?_set_ne hij⟩
theorem setPv_free {env env' : En} {i : Nat} {v : PyData} (h : TL.setPv env i v = some env') : free? env i = true ∧ env' = env.set i (some (.pv v)) := by
  unfold TL.setPv at h
  split at h
  · cases h
    exact ⟨by assumption, rfl⟩
  · cases h

/-! ### targets -/
abbrev DG := PyData → En → Option En
def tG (Y : Pm) (g : DG) : TG := fun p σ H Q => ∃ env v env', Ok Y.K Y.O0 env σ H ∧ Rp Y.K (Al Y.O0 env σ) H v p ∧ g v env = some env' ∧ ∀ σ' H', Stp Y.K Y.O0 env σ H env' σ' H' → Q σ' H'
def tGs (Y : Pm) (g : List PyData → En → Option En) : TGs := fun ps σ H Q => ∃ env vs env', Ok Y.K Y.O0 env σ H ∧ Rps Y.K (Al Y.O0 env σ) H vs ps ∧ g vs env = some env' ∧ ∀ σ' H', Stp Y.K Y.O0 env σ H env' σ' H' → Q σ' H'
def DGt (X : Cx) (tg : Expr) (g : DG) : Prop := ∀ Y : Pm, Y.K = X.K → PG X tg (tG Y g)
def DGs (X : Cx) (tgs : List Expr) (g : List PyData → En → Option En) : Prop := ∀ Y : Pm, Y.K = X.K → PGs X tgs (tGs Y g)
theorem PG.imp {tg : Expr} {t t' : TG} (h : PG X tg t) (i : ∀ v σ H Q, t' v σ H Q → t v σ H Q) : PG X tg t' := ⟨fun pins s σ H v u Q I r q => h.run pins s σ H v u Q I r (i _ _ _ _ q)⟩
theorem PGs.imp {tg : List Expr} {t t' : TGs} (h : PGs X tg t) (i : ∀ v σ H Q, t' v σ H Q → t v σ H Q) : PGs X tg t' := ⟨fun pins s σ H v u Q I r q => h.run pins s σ H v u Q I r (i _ _ _ _ q)⟩
def gNm (i : Nat) : DG := fun v env => setPv env i v
theorem dg_name {i : Nat} (h : PG X (.Name x pos) (gName i)) : DGt X (.Name x pos) (gNm i) := fun Y hY => PG.imp h fun p σ H Q ⟨env, v, env', ok, r, e, q⟩ => by
  obtain ⟨hf, rfl⟩ := setPv_free e
  exact q _ _ (Stp.setPv ok hf r)
def gs0 : List PyData → En → Option En := fun vs env => match vs with
  | [] => some env
  | _ => none
def gsC (g : DG) (r : List PyData → En → Option En) : List PyData → En → Option En := fun vs env => match vs with
  | v :: vs => (g v env).bind fun e1 => r vs e1
  | [] => none
theorem dgs_nil : DGs X [] gs0 := fun Y hY => PGs.imp pgs_nil fun ps σ H Q ⟨env, vs, env', ok, r, e, q⟩ => by
  unfold gs0 at e
  split at e
  · cases e
    cases r
    exact ⟨rfl, q σ H (Stp.refl ok)⟩
  · cases e
theorem dgs_cons {es : List Expr} {g : DG} {r : List PyData → En → Option En} (h1 : DGt X e g) (h2 : DGs X es r) (hs : (assignEach (e :: es) X.env).map (·.2) = assign e X.env :: (assignEach es X.env).map (·.2) := by rfl) : DGs X (e :: es) (gsC g r) := fun Y hY =>
  PGs.imp (pgs_cons (h1 Y hY) (h2 Y hY) hs) fun ps σ H Q ⟨env, vs, env', ok, rp, e, q⟩ => by
    unfold gsC at e
    split at e
    · rename_i v vs'
      cases rp with
      | cons r1 r2 =>
      cases hg : g v env with
      | none => rw [hg] at e; cases e
      | some e1 =>
        rw [hg] at e
        exact ⟨_, _, rfl, env, v, e1, ok, r1, hg, fun σ' H' s => ⟨e1, vs', env', s.ok, s.rps ok r2, e, fun σ2 H2 s2 => q σ2 H2 (s.trans s2)⟩⟩
    · cases e
def gTp (n : Nat) (r : List PyData → En → Option En) : DG := fun v env => match v with
  | .tuple ds => if ds.length = n then r ds env else none
  | _ => none
theorem dg_tup {es : List Expr} {kk : Nat} {r : List PyData → En → Option En} {n : Nat} (hc : X.calm = true) (h : DGs X es r) (hn : (assignEach es X.env).length = n := by rfl) (hst : (assignEach es X.env).findIdx? (·.1) = none := by rfl) : DGt X (.Tuple es kk pos) (gTp n r) := fun Y hY =>
  PG.imp (pg_tup hc (h Y hY) hn hst) fun p σ H Q ⟨env, v, env', ok, rp, e, q⟩ => by
    unfold gTp at e
    split at e
    · split at e
      · cases rp with
        | tup h1 h2 => exact ⟨_, _, rfl, by rw [← hY]; exact h1, by rw [← h2.length]; assumption, env, _, env', ok, h2, e, q⟩
      · cases e
    · cases e
/-- target = value -/
def dAsg (d : D) (g : DG) : DS := fun env => (d env).goS fun v e1 => Out.ofS (g v e1) fun e2 => .nx e2
theorem asg_end {O0 : Addr → Prop} {g : DG} {env : En} {σ : L2.St} {H : Hp} {Dn : Ends} (ok : Ok X.K O0 env σ H) (q : EndS (Cx.pm X W O0) env σ H Dn (dAsg d g env)) : tAsg (tD (Cx.pm X W O0) d) (tG (Cx.pm X W O0) g) Dn σ H :=
  ⟨env, ok, EndE.goS q fun v e1 H1 s1 q1 p rp => by
    obtain ⟨e2, h2, q2⟩ := EndS.of q1
    exact ⟨e1, v, e2, s1.ok, rp, h2, q2⟩⟩
theorem ds_asg {tg : Expr} {g : DG} (he : DE X W e d) (hg : DGt X tg g) (hs : swapsWithSole [tg] e pos.line X.env = pure false := by rfl) (hw : swappedStores [tg] e X.env = pure none := by rfl)
    (h1 : (assignEach [tg] X.env).map (·.2) = [assign tg X.env] := by rfl) : DSt X W (.Assign [tg] e pos) (dAsg d g) := fun O0 =>
  PS.imp (ps_asg (he O0) (hg (Cx.pm X W O0) rfl) hs hw h1) fun Dn σ H ⟨env, ok, q⟩ => asg_end ok q
/-- name = value -/
theorem ds_set {i : Nat} {p' : Pos} (hN : X.N.Nodup) (hi : X.N[i]? = some x) (hx : Loc X.env.scope x) (he : DE X W e d) (hs : swapsWith e (some (.Name x p')) pos.line X.env = pure false := by rfl) (hf : X.fn x = true ∨ X.env.scope.names.lookup x = some .local := by first | exact .inl rfl | exact .inr rfl | assumption) :
    DSt X W (.Assign [.Name x p'] e pos) (dAsg d (gNm i)) := fun O0 =>
  PS.imp (ps_set hN hi hx (he O0) hs hf) fun Dn σ H ⟨env, ok, q⟩ => ⟨env, ok, EndE.goS q fun v e1 H1 s1 q1 p rp => by
    obtain ⟨e2, h2, q2⟩ := EndS.of q1
    obtain ⟨hfr, rfl⟩ := setPv_free h2
    exact q2 _ _ (Stp.setPv s1.ok hfr rp)⟩
/-- name op= value -/
def dAug (i : Nat) (g : PyData → PyData → Option PyData) (d : D) : DS := fun env => match env[i]? with
  | some (some (.pv v)) => (d env).goS fun w e1 => Out.ofS (g v w) fun u => Out.ofS (setPv e1 i u) fun e2 => .nx e2
  | _ => .stuck
theorem ds_aug {i : Nat} {op : Operator} {r : R2} {g : PyData → PyData → Option PyData} {p' : Pos} (ho : OpR X (inplaceOp op) r) (od : OpD X.K r g) (hN : X.N.Nodup) (hi : X.N[i]? = some x) (hx : Loc X.env.scope x) (he : DE X W e d) (hf : X.fn x = true ∨ X.env.scope.names.lookup x = some .local := by first | exact .inl rfl | exact .inr rfl | assumption) :
    DSt X W (.AugAssign (.Name x p') op e pos) (dAug i g d) := fun O0 =>
  PS.imp (ps_aug (ti := r) hN hi hx (he O0) ho hf) fun Dn σ H ⟨env, ok, q⟩ => by
    unfold dAug at q
    split at q
    · rename_i v ev
      obtain ⟨p0, ep, r0⟩ := ok.val i _ ev
      refine ⟨p0, ep, env, ok, EndE.goS q fun w e1 H1 s1 q1 p rp => ?_⟩
      obtain ⟨u, hu, q1⟩ := EndS.of q1
      obtain ⟨e2, h2, q2⟩ := EndS.of q1
      obtain ⟨hfr, rfl⟩ := setPv_free h2
      exact od O0 e1 σ H1 v w u p0 p _ s1.ok (s1.step.rp ok r0) rp hu fun H2 p2 s2 r2 => q2 _ _ (s2.step.trans (Stp.setPv s2.ok hfr r2))
    · exact q.elim
end
end TL

/-! TL6: lists of a slot's own. -/
namespace TL
open PySem PySem.Spec PyProof.Rows L2

abbrev DL := En → Out (List PyData × En)
/-- an expression whose value is a new list -/
def tF (Y : Pm) (d : DL) : TE := fun σ H Q => ∃ env, Ok Y.K Y.O0 env σ H ∧ EndE Y env σ H (fun ds env' H' => ∀ a ps, Fresh Y.K Y.O0 H env' σ H' a ds ps → Q (.ref a) H') (d env)
def DF (X : Cx) (W : WX) (x : Expr) (d : DL) : Prop := ∀ O0, PE X x (tF (Cx.pm X W O0) d)
section
variable {K : PySem.W.Frag} {O0 : Addr → Prop} {env e' env0 : En} {σ σ' σ0 : L2.St} {H H' H0 : Hp} {a : Addr} {ds : List PyData} {ps : List V}
theorem StpE.no (s : StpE K O0 env σ H e' H') {a : Addr} (h : H' a = none) : H a = none := by
  cases q : H a with
  | none => rfl
  | some o => exact absurd h (s.dom a (by rw [q]; intro z; cases z))
theorem Stp.no (s : Stp K O0 env σ H e' σ' H') {a : Addr} (h : H' a = none) : H a = none := by
  cases q : H a with
  | none => rfl
  | some o => exact absurd h (s.dom a (by rw [q]; intro z; cases z))
/-- a list that is laid now -/
theorem Goes.lay (hp : H a = none) : Goes K (Al O0 env σ) H (Al (With O0 a) env σ) (upd H a (.lst ps)) :=
  ⟨fun b xs h n => ⟨by rw [upd_ne (ne_of_none h hp)]; exact h, fun z => z.elim (fun z => z.elim (fun z => n (.inl z)) fun z => ne_of_none h hp z) fun z => n (.inr z)⟩, (Goes.new (O := Al O0 env σ) hp).2⟩
theorem Ok.goes {O1 : Addr → Prop} (ok : Ok K O0 env σ H) (g : Goes K (Al O0 env σ) H (Al O1 env σ) H') (hm : ∀ a xs, Own env σ a → H a = some (.lst xs) → H' a = some (.lst xs)) (hs : ∀ a (ns : List Int), SqS K H a (ns.map V.int) → SqS K H' a (ns.map V.int))
    (hl : ∀ a, O1 a → ∃ xs, H' a = some (.lst xs)) (hd : ∀ a, Own env σ a → ¬ O1 a) : Ok K O1 env σ H' where
  len := ok.len
  val := fun i s e => by
    obtain ⟨v, ev, r⟩ := ok.val i s e
    refine ⟨v, ev, ?_⟩
    cases s with
    | pv d => exact Rp.goes g _ _ r
    | ow es => obtain ⟨a, ps, h1, h2, h3⟩ := r; subst h1; exact ⟨a, ps, rfl, hm _ _ ⟨i, _, e, rfl, ev⟩ h2, Rps.goes g _ _ h3⟩
    | io es => obtain ⟨a, ps, h1, h2, h3⟩ := r; subst h1; exact ⟨a, ps, rfl, hm _ _ ⟨i, _, e, rfl, ev⟩ h2, Rps.goes g _ _ h3⟩
    | sc ns => obtain ⟨a, h1, h2⟩ := r; exact ⟨a, h1, hs _ _ h2⟩
  inj := ok.inj
  lst := hl
  dis := hd
theorem Fresh.lay (ok : Ok K O0 env σ H) (hp : H a = none) (hn : H0 a = none) (r : Rps K (Al O0 env σ) H ds ps) : Fresh K O0 H0 env σ (upd H a (.lst ps)) a ds ps where
  new := hn
  ok := ok.goes (Goes.lay hp) (fun b xs _ h => by rw [upd_ne (ne_of_none h hp)]; exact h) (fun b ns h => SqS.new hp h) (fun b z => z.elim (fun z => by
      obtain ⟨xs, e⟩ := ok.lst b z
      exact ⟨xs, by rw [upd_ne (ne_of_none e hp)]; exact e⟩) fun z => by
      subst z
      exact ⟨ps, upd_same⟩) fun b h z => z.elim (ok.dis b h) fun z => by
        obtain ⟨xs, e⟩ := ok.own h
        exact ne_of_none e hp z
  at' := upd_same
  rps := Rps.goes (Goes.lay hp) _ _ r
/-- a new list is stored as the slot's own -/
theorem Stp.setOw (ok0 : Ok K O0 env0 σ0 H0) (s0 : Stp K O0 env0 σ0 H0 env σ H) {i : Nat} (hf : free? env i = true) (f : Fresh K O0 H0 env σ H a ds ps) :
    Stp K O0 env0 σ0 H0 (env.set i (some (.ow ds))) (σ.set i (some (.ref a))) H := by
  have ok := s0.ok
  have le : ∀ b, Own (env.set i (some (.ow ds))) (σ.set i (some (.ref a))) b → b = a ∨ Own env σ b := fun b h => by
    rcases set_own h with ⟨_, e, _⟩ | ⟨j, t, _, h1, h2, h3⟩
    · cases e
      exact .inl rfl
    · exact .inr ⟨j, t, h1, h2, h3⟩
  have hna : ¬ Own env σ a := fun z => f.ok.dis a z (.inr rfl)
  have ho0 : ¬ O0 a := fun z => by
    obtain ⟨xs, e⟩ := ok0.lst a z
    rw [f.new] at e
    cases e
  have hre : Goes K (Al (With O0 a) env σ) H (Al O0 (env.set i (some (.ow ds))) (σ.set i (some (.ref a)))) H :=
    ⟨fun b xs h n => ⟨h, fun z => z.elim (fun z => n (.inl (.inl z))) fun z => (le b z).elim (fun z => n (.inl (.inr z))) fun z => n (.inr z)⟩, fun b xs h => h⟩
  refine ⟨⟨by rw [List.length_set, List.length_set]; exact ok.len, fun j s hj => ?_, fun j l s t b hj ms hl' mt h1 h2 => ?_, ok.lst, fun b h => ?_⟩, s0.keep, s0.dom, fun b h => ?_, fun j es hj => ?_⟩
  · rcases get_set2 (p := .ref a) ok.len hj with ⟨h1, h2, h3⟩ | ⟨h1, h2, h3⟩
    · subst h2
      exact ⟨_, h3, a, ps, rfl, f.at', Rps.goes hre _ _ f.rps⟩
    · obtain ⟨w, ew, rw'⟩ := f.ok.val j s h2
      exact ⟨w, h3.trans ew, RS.goes hre (fun _ _ h => h) (fun _ _ h => h) rw'⟩
  · rcases get_set2 (p := .ref a) ok.len hj with ⟨e1, _, g1⟩ | ⟨e1, h2', h3⟩
    · rcases get_set2 (p := .ref a) ok.len hl' with ⟨e2, _, _⟩ | ⟨e2, h4', h5⟩
      · exact e1.trans e2.symm
      · rw [g1] at h1
        cases h1
        exact absurd ⟨l, t, h4', mt, h5.symm.trans h2⟩ hna
    · rcases get_set2 (p := .ref a) ok.len hl' with ⟨e2, _, g2⟩ | ⟨e2, h4', h5⟩
      · rw [g2] at h2
        cases h2
        exact absurd ⟨j, s, h2', ms, h3.symm.trans h1⟩ hna
      · exact ok.inj j l s t b h2' ms h4' mt (h3.symm.trans h1) (h5.symm.trans h2)
  · rcases le b h with rfl | h
    · exact ho0
    · exact ok.dis b h
  · rcases le b h with rfl | h
    · exact .inr f.new
    · exact s0.le b h
  · obtain ⟨⟨d1, e1⟩, e2⟩ := s0.io j es hj
    have hij : i ≠ j := fun z => free_io hf (z ▸ e1)
    exact ⟨⟨d1, by rw [List.getElem?_set_ne hij]; exact e1⟩, by rw [List.getElem?_set_ne hij]; exact e2⟩
/-- a new list is a value, too -/
theorem Fresh.rp (f : Fresh K O0 H0 env σ H a ds ps) (ho0 : ¬ O0 a) : Rp K (Al O0 env σ) H (.list ds) (.ref a) :=
  .lst f.at' (fun z => z.elim ho0 fun z => f.ok.dis a z (.inr rfl)) (Rps.goes ⟨fun b xs h n => ⟨h, fun z => n (z.elim (fun z => .inl (.inl z)) .inr)⟩, fun b xs h => h⟩ _ _ f.rps)
theorem Fresh.no0 (f : Fresh K O0 H0 env σ H a ds ps) (ok0 : Ok K O0 env0 σ0 H0) : ¬ O0 a := fun z => by
  obtain ⟨xs, e⟩ := ok0.lst a z
  rw [f.new] at e
  cases e

/-! ### a slot's own list is changed -/
def Sl.put : Sl → List PyData → Sl
  | .ow _, ds => .ow ds
  | .io _, ds => .io ds
  | s, _ => s
theorem put_mut (s : Sl) (ds : List PyData) : (s.put ds).mut = s.mut := by cases s <;> rfl
def ownAt (env : En) (i : Nat) : Option (List PyData) := match env[i]? with
  | some (some (.ow ds)) => some ds
  | some (some (.io ds)) => some ds
  | _ => none
def putOw (env : En) (i : Nat) (ds : List PyData) : En := match env[i]? with
  | some (some s) => env.set i (some (s.put ds))
  | _ => env
theorem ownAt_ok (ok : Ok K O0 env σ H) {i : Nat} (e : ownAt env i = some ds) :
    ∃ a ps s, σ[i]? = some (some (.ref a)) ∧ H a = some (.lst ps) ∧ Rps K (Al O0 env σ) H ds ps ∧ env[i]? = some (some s) ∧ s.mut = true := by
  unfold ownAt at e
  split at e
  · rename_i es ee
    cases e
    obtain ⟨v, ev, a, ps, rfl, h2, h3⟩ := ok.val i _ ee
    exact ⟨a, ps, _, ev, h2, h3, ee, rfl⟩
  · rename_i es ee
    cases e
    obtain ⟨v, ev, a, ps, rfl, h2, h3⟩ := ok.val i _ ee
    exact ⟨a, ps, _, ev, h2, h3, ee, rfl⟩
  · cases e
theorem StpE.put (ok : Ok K O0 env σ H) {i : Nat} {s : Sl} {ds' : List PyData} {ps' : List V} (es : σ[i]? = some (some (.ref a))) (hl : H a = some (.lst ps)) (ee : env[i]? = some (some s)) (hm : s.mut = true) (r : Rps K (Al O0 env σ) H ds' ps') :
    StpE K O0 env σ H (putOw env i ds') (upd H a (.lst ps')) := by
  have he : putOw env i ds' = env.set i (some (s.put ds')) := by
    unfold putOw
    rw [ee]
  rw [he]
  have own_a : Own env σ a := ⟨i, s, ee, hm, es⟩
  have le : ∀ b, Own (env.set i (some (s.put ds'))) σ b → Own env σ b := fun b ⟨j, t, hj, m, hs⟩ => by
    rcases get_set hj with ⟨h1, h2⟩ | ⟨h1, h2⟩
    · subst h1
      exact ⟨i, s, ee, hm, hs⟩
    · exact ⟨j, t, h2, m, hs⟩
  have hne : ∀ b o, H b = some o → ¬ Own env σ b → upd H a (.lst ps') b = some o := fun b o h n => by
    rw [upd_ne (fun z : b = a => n (by rw [z]; exact own_a))]
    exact h
  have g : Goes K (Al O0 env σ) H (Al O0 (env.set i (some (s.put ds'))) σ) (upd H a (.lst ps')) :=
    ⟨fun b xs h n => ⟨hne b _ h fun z => n (.inr z), fun z => n (z.elim .inl fun z => .inr (le b z))⟩, fun b xs h => SqT.keep ok hne h⟩
  refine ⟨⟨by rw [List.length_set]; exact ok.len, fun j t hj => ?_, fun j l t u b hj mt hl' mu hs1 hs2 => ?_, fun b h => ?_, fun b h => ok.dis b (le b h)⟩, hne, fun b h => ?_, le, fun j es' hj => ?_⟩
  · rcases get_set hj with ⟨h1, h2⟩ | ⟨h1, h2⟩
    · subst h1
      have e2 : t = s.put ds' := (Option.some.inj h2).symm
      subst e2
      refine ⟨_, es, ?_⟩
      cases s with
      | pv d => cases hm
      | sc ns => cases hm
      | ow es2 => exact ⟨a, ps', rfl, upd_same, Rps.goes g _ _ r⟩
      | io es2 => exact ⟨a, ps', rfl, upd_same, Rps.goes g _ _ r⟩
    · obtain ⟨w, ew, rw'⟩ := ok.val j t h2
      refine ⟨w, ew, ?_⟩
      cases t with
      | pv d => exact Rp.goes g _ _ rw'
      | ow es2 =>
        obtain ⟨b, qs, f1, f2, f3⟩ := rw'
        subst f1
        exact ⟨b, qs, rfl, by rw [upd_ne (fun z : b = a => h1 (ok.inj i j _ _ a ee hm h2 rfl es (by rw [ew, z])))]; exact f2, Rps.goes g _ _ f3⟩
      | io es2 =>
        obtain ⟨b, qs, f1, f2, f3⟩ := rw'
        subst f1
        exact ⟨b, qs, rfl, by rw [upd_ne (fun z : b = a => h1 (ok.inj i j _ _ a ee hm h2 rfl es (by rw [ew, z])))]; exact f2, Rps.goes g _ _ f3⟩
      | sc ns =>
        obtain ⟨b, f1, f2⟩ := rw'
        refine ⟨b, f1, f2.elim (fun ⟨o, h⟩ => .inl ⟨o, hne b _ h fun z => ?_⟩) .inr⟩
        obtain ⟨xs, e⟩ := ok.own z
        rw [h] at e
        cases e
  · rcases get_set hj with ⟨h1, h2⟩ | ⟨h1, h2⟩
    · rcases get_set hl' with ⟨h3, h4⟩ | ⟨h3, h4⟩
      · exact h1.symm.trans h3
      · subst h1
        exact ok.inj i l s u b ee hm h4 mu hs1 hs2
    · rcases get_set hl' with ⟨h3, h4⟩ | ⟨h3, h4⟩
      · subst h3
        exact ok.inj j i t s b h2 mt ee hm hs1 hs2
      · exact ok.inj j l t u b h2 mt h4 mu hs1 hs2
  · obtain ⟨xs, e⟩ := ok.lst b h
    exact ⟨xs, hne b _ e fun z => ok.dis b z h⟩
  · by_cases hba : b = a
    · subst hba
      rw [upd_same]
      intro z
      cases z
    · rw [upd_ne hba]
      exact h
  · by_cases hij : i = j
    · subst hij
      rw [ee] at hj
      cases hj
      exact ⟨ds', by rw [List.getElem?_set_self (by
        by_cases hi : i < env.length
        · exact hi
        · rw [List.getElem?_eq_none (by simpa using hi)] at ee
          cases ee)]; rfl⟩
    · exact ⟨es', by rw [List.getElem?_set_ne hij]; exact hj⟩
end
end TL

/-! TL7: statements over lists of a slot's own; loops. -/
namespace TL
open PySem PySem.Spec PyProof.Rows L2

section
variable {X : Cx} {W : WX} {k : Nat} {st : Stmt} {rest : List Stmt} {d1 d2 : DS} {e a b c o : Expr} {d da db : D} {dl : DL} {pos p : Pos} {x y : Str}
/-- a new list as a value -/
def dOfF (d : DL) : D := fun env => (d env).bind fun (ds, e1) => .ok (.list ds, e1)
theorem de_of_df (h : DF X W e dl) : DE X W e (dOfF dl) := fun O0 => PE.imp (h O0) fun σ H Q ⟨env, ok, q⟩ => ⟨env, ok, EndE.bind q fun ds e1 H1 s1 q1 a ps f => q1 H1 (StpE.refl s1.ok) _ (f.rp (f.no0 ok))⟩
def fLst (ds : List D) : DL := dArgs ds
theorem df_lst {es : List Expr} {ds : List D} (h : DAs X W es (dArgs ds)) (hl : ds.length ≤ 1000 := by decide) : DF X W (.List es pos) (fLst ds) := fun O0 =>
  PE.imp (pe_lst (h O0)) fun σ H Q ⟨env, ok, q⟩ => ⟨env, ok, args_end (f := fun vs e1 => .ok (.list vs, e1)) (g := fun v e1 H1 => match v with
      | .list vs => ∀ ps, Rps X.K (Al O0 e1 σ) H1 vs ps → ∀ p, H1 p = none → Q (.ref p) (upd H1 p (.lst ps))
      | _ => False) (by
    unfold fLst at q
    cases hd : dArgs ds env with
    | ok pr =>
      obtain ⟨vs, e1⟩ := pr
      rw [hd] at q
      intro H1 s1 ps rps p hp
      have s2 := StpE.new (o := .lst ps) s1.ok hp
      exact q _ (s1.trans s2) p ps (Fresh.lay s1.ok hp (s1.no hp) rps)
    | ex c fs e1 => rw [hd] at q; exact q
    | stuck => rw [hd] at q; exact q) fun vs e1 H1 hv s1 q1 ps rps => ⟨by rw [← rps.length, hv]; exact Nat.le_of_lt (small1000 hl), fun p hp => q1 H1 (StpE.refl s1.ok) ps rps p hp⟩⟩
/-- x = a new list, to be the slot's own -/
def setOw (env : En) (i : Nat) (ds : List PyData) : Option En := if free? env i = true then some (env.set i (some (.ow ds))) else none
theorem setOw_free {env env' : En} {i : Nat} {ds : List PyData} (h : setOw env i ds = some env') : free? env i = true ∧ env' = env.set i (some (.ow ds)) := by
  unfold setOw at h
  split at h
  · cases h
    exact ⟨by assumption, rfl⟩
  · cases h
def dAsgO (i : Nat) (d : DL) : DS := fun env => (d env).goS fun ds e1 => Out.ofS (setOw e1 i ds) fun e2 => .nx e2
theorem ds_setO {i : Nat} {p' : Pos} (hN : X.N.Nodup) (hi : X.N[i]? = some x) (hx : Loc X.env.scope x) (he : DF X W e dl) (hs : swapsWith e (some (.Name x p')) pos.line X.env = pure false := by rfl) (hf : X.fn x = true ∨ X.env.scope.names.lookup x = some .local := by first | exact .inl rfl | exact .inr rfl | assumption) :
    DSt X W (.Assign [.Name x p'] e pos) (dAsgO i dl) := fun O0 =>
  PS.imp (ps_set hN hi hx (he O0) hs hf) fun Dn σ H ⟨env, ok, q⟩ => ⟨env, ok, by
    unfold dAsgO at q
    cases hd : dl env with
    | ok pr =>
      obtain ⟨ds, e1⟩ := pr
      rw [hd] at q
      intro H1 s1 a ps f
      obtain ⟨e2, h2, q2⟩ := EndS.of q
      obtain ⟨hfr, rfl⟩ := setOw_free h2
      exact q2 _ _ (Stp.setOw ok s1.step hfr f)
    | ex c fs e1 => rw [hd] at q; exact fun H' cls d s r => q σ H' cls d s.step r
    | stuck => rw [hd] at q; exact q⟩
def dRetF (d : DL) : DS := fun env => (d env).goS fun ds e1 => .rl ds e1
theorem ds_retF (he : DF X W e dl) : DSt X W (.Return (some e) pos) (dRetF dl) := fun O0 =>
  PS.imp (ps_ret (he O0)) fun Dn σ H ⟨env, ok, q⟩ => ⟨env, ok, by
    unfold dRetF at q
    cases hd : dl env with
    | ok pr =>
      obtain ⟨ds, e1⟩ := pr
      rw [hd] at q
      exact fun H1 s1 a ps f => q σ H1 a ps s1.step f
    | ex c fs e1 => rw [hd] at q; exact fun H' cls d s r => q σ H' cls d s.step r
    | stuck => rw [hd] at q; exact q⟩

/-! ### its items -/
theorem rps_set {K : PySem.W.Frag} {O : Addr → Prop} {H : Hp} {d : PyData} {v : V} (r : Rp K O H d v) {ds : List PyData} {vs : List V} (i : Nat) (h : Rps K O H ds vs) : Rps K O H (ds.set i d) (vs.set i v) := Rps.set r i h
/-- x[e] = v -/
def ixW (ds : Option (List PyData)) (w v : PyData) : Option (List PyData) := match ds, w with
  | some ds, .int j => (ixN ds.length j).map fun n => ds.set n v
  | _, _ => none
def dSetIx (i : Nat) (b d : D) : DS := fun env => (d env).goS fun v e1 => Out.ofS (ownAt e1 i) fun _ => (b e1).goS fun w e2 => Out.ofS (ixW (ownAt e2 i) w v) fun ds => .nx (putOw e2 i ds)
theorem ds_setIx {i : Nat} {p' : Pos} (ho : PE X o (tVar i)) (hb : DE X W b db) (he : DE X W e d) (ha : ∀ v, assign (.Subscript o b p') X.env v = (do
      let ov ← holding [v] (eval o X.env)
      let iv ← holding [v, ov] (eval b X.env)
      standAt p'
      holding [v, ov, iv] (setItem ov iv v)
      release [v, ov, iv] []) := by intro _; rfl) (hs : swapsWithSole [.Subscript o b p'] e pos.line X.env = pure false := by rfl) (hw : swappedStores [.Subscript o b p'] e X.env = pure none := by rfl)
    (h1 : (assignEach [.Subscript o b p'] X.env).map (·.2) = [assign (.Subscript o b p') X.env] := by rfl) : DSt X W (.Assign [.Subscript o b p'] e pos) (dSetIx i db d) := fun O0 =>
  PS.imp (ps_asg (he O0) (pg_sub ho (hb O0) set_list ha) hs hw h1) fun Dn σ H ⟨env, ok, q⟩ => ⟨env, ok, EndE.goS q fun v e1 H1 s1 q1 p rp => by
    obtain ⟨ds0, e0, q1⟩ := EndS.of q1
    obtain ⟨a0, ps0, s0, es0, _, _, _, _⟩ := ownAt_ok s1.ok e0
    refine ⟨_, es0, e1, s1.ok, EndE.goS q1 fun w e2 H2 s2 q2 p2 rp2 => ?_⟩
    obtain ⟨ds', e3, q3⟩ := EndS.of q2
    clear q2
    cases hoe : ownAt e2 i with
    | none => rw [hoe] at e3; cases e3
    | some ds =>
      rw [hoe] at e3
      obtain ⟨a1, ps, s3, es, hl, hr, ee, hm⟩ := ownAt_ok s2.ok hoe
      rw [es0] at es
      cases es
      cases w with
      | int j =>
        cases rp2
        cases hj : ixN ds.length j with
        | none => simp only [ixW, hj, Option.map_none] at e3; cases e3
        | some n =>
          simp only [ixW, hj, Option.map_some] at e3
          cases e3
          exact ⟨_, ps, j, n, rfl, rfl, hl, by rw [← hr.length]; exact hj, q3 _ _ (StpE.put s2.ok es0 hl ee hm (Rps.set (s2.step.rp s1.ok rp) n hr)).step⟩
      | _ => cases e3⟩
/-- x.append(e) -/
def appW (ds : List PyData) (v : PyData) : Option (List PyData) := if ds.length < sizeLine then some (ds ++ [v]) else none
def dAppend (i : Nat) (d : D) : D := fun env => (Out.of (ownAt env i)).bind fun _ => (d env).bind fun (v, e1) => (Out.of ((ownAt e1 i).bind fun ds => appW ds v)).bind fun ds => .ok (.none, putOw e1 i ds)
theorem de_append {i : Nat} {apos cpos : Pos} (ho : PE X o (tVar i)) (he : DAs X W [e] (dArgs [d]))
    (hbase : attributeBase o "append" X.env (eval o X.env) = eval o X.env := by rfl)
    (hfew : ((backTo cpos (starEach [e] X.env)).all (fun x => !x.1) && (backToKw cpos (keywordEach [] X.env)).all (fun x => x.1.isSome)
      && decide (([e] : List Expr).length + ([] : List Keyword).length + (if ([] : List Keyword).isEmpty then 0 else 1) < 30)) = true := by rfl)
    (hline : (apos.endLine == cpos.line) = true := by rfl) (hs : starEach [e] X.env = (false, eval e X.env) :: starEach [] X.env := by rfl) (hplain : (backTo cpos (starEach [] X.env)).any (·.1) = false := by rfl) :
    DE X W (.Call (.Attribute o "append" apos) [e] [] cpos) (dAppend i d) := fun O0 =>
  PE.imp (pe_bm PySem.F.plainAttrs_list PySem.F.slot_list_append PySem.F.type_list_append mt_append ho (he O0) hbase hfew hline hs hplain) fun σ H Q ⟨env, ok, q⟩ => by
    obtain ⟨ds0, e0, q⟩ := EndE.of q
    obtain ⟨a0, ps0, s0, es0, hl0, _, _, _⟩ := ownAt_ok ok e0
    refine ⟨_, es0, .inl ⟨rfl, _, .inl (.inl hl0)⟩, env, ok, ?_⟩
    have q' : EndE (Cx.pm X W O0) env σ H (fun v env' H' => ∀ p, Rp X.K (Al O0 env' σ) H' v p → Q p H') ((dArgs [d] env).bind fun (vs, e1) => (Out.of ((ownAt e1 i).bind fun ds => appW ds (vs.headD .none))).bind fun ds => .ok (.none, putOw e1 i ds)) := by
      unfold dArgs dArgs dCons dNil
      cases hd : d env with
      | ok pr => obtain ⟨v, e1⟩ := pr; rw [hd] at q; exact q
      | ex c fs e1 => rw [hd] at q; exact q
      | stuck => rw [hd] at q; exact q
    refine args_end (f := fun vs e1 => (Out.of ((ownAt e1 i).bind fun ds => appW ds (vs.headD .none))).bind fun ds => .ok (.none, putOw e1 i ds)) q' fun vs e1 H1 hv s1 q1 ps rps => ?_
    obtain ⟨ds', e3, q3⟩ := EndE.of q1
    clear q1
    cases hoe : ownAt e1 i with
    | none => rw [hoe] at e3; cases e3
    | some ds =>
      rw [hoe] at e3
      obtain ⟨a1, qs, s3, es, hl, hr, ee, hm⟩ := ownAt_ok s1.ok hoe
      rw [es0] at es
      cases es
      cases rps with
      | nil => cases hv
      | cons r1 r2 =>
      cases r2 with
      | cons _ _ => cases hv
      | nil =>
      replace e3 : (if ds.length < sizeLine then some (ds ++ [_]) else none) = some ds' := e3
      split at e3
      · cases e3
        have st := StpE.put s1.ok es0 hl ee hm (hr.append (.cons r1 .nil))
        exact ⟨_, _, _, rfl, rfl, hl, by rw [← hr.length]; assumption, q3 _ st _ .non⟩
      · cases e3
/-- x.pop() -/
def dPop (i : Nat) : D := fun env => (Out.of (ownAt env i)).bind fun ds => (Out.of ds[ds.length - 1]?).bind fun v => .ok (v, putOw env i ds.dropLast)
theorem rps_dropLast {K : PySem.W.Frag} {O : Addr → Prop} {H : Hp} {ds : List PyData} {ps : List V} (h : Rps K O H ds ps) : Rps K O H ds.dropLast ps.dropLast := by
  rw [List.dropLast_eq_take, List.dropLast_eq_take, h.length]
  exact h.take _
end
end TL

/-! TL8: loops, a, b = x, y. -/
namespace TL
open PySem PySem.Spec PyProof.Rows L2

/-- what a loop goes over: J yields the items, whatever has been done since -/
def Wk (Y : Pm) (J : It) (env : En) (σ : L2.St) (H : Hp) (items : List PyData) : Prop :=
  ∀ env2 σ2 H2, Stp Y.K Y.O0 env σ H env2 σ2 H2 → ∀ i : Nat,
    (∀ d, items[i]? = some d → J.go i H2 ∧ ∀ x H3, J.yld i H2 x H3 → StpE Y.K Y.O0 env2 σ2 H2 env2 H3 ∧ Rp Y.K (Al Y.O0 env2 σ2) H3 d x) ∧ (items.length ≤ i → J.stop i H2)
def tI (Y : Pm) (d : DL) : TI := fun σ H R => ∃ env, Ok Y.K Y.O0 env σ H ∧ EndE Y env σ H (fun items env' H' => ∀ J, Wk Y J env' σ H' items → R J H') (d env)
def DI (X : Cx) (W : WX) (tg iter : Expr) (d : DL) : Prop := ∀ O0, PI X tg iter (tI (Cx.pm X W O0) d)
theorem PI.imp {X : Cx} {tg iter : Expr} {t t' : TI} (h : PI X tg iter t) (i : ∀ σ H Q, t' σ H Q → t σ H Q) : PI X tg iter t' := ⟨fun pins s σ H Q I q => h.run pins s σ H Q I (i _ _ _ q)⟩

/-- the items of a value -/
def itemsL : PyData → Option (List PyData)
  | .list ds => some ds
  | _ => none
def itemsT : PyData → Option (List PyData)
  | .tuple ds => some ds
  | _ => none
def dIt (f : PyData → Option (List PyData)) (d : D) : DL := fun env => (d env).bind fun (v, e1) => (Out.of (f v)).bind fun ds => .ok (ds, e1)
section
variable {X : Cx} {W : WX} {k : Nat} {tg iter e a b c : Expr} {d da db dc : D} {dl : DL} {pos p : Pos} {x y : Str}
theorem wk_list {Y : Pm} {env : En} {σ : L2.St} {H : Hp} {l : Addr} {ds : List PyData} {ps : List V} (ok : Ok Y.K Y.O0 env σ H) (hl : H l = some (.lst ps)) (hn : ¬ Al Y.O0 env σ l) (r : Rps Y.K (Al Y.O0 env σ) H ds ps) : Wk Y (Itl Y.K l) env σ H ds := fun env2 σ2 H2 s i => by
  have h2 : SqL Y.K H2 l ps := .inl (.inl ((s.goes ok).1 l ps hl hn).1)
  have r2 := s.rps ok r
  refine ⟨fun d hd => ?_, fun hi => ⟨ps, h2, by rw [← r2.length]; exact hi⟩⟩
  obtain ⟨v, hv, rv⟩ := r2.get hd
  exact ⟨⟨ps, v, h2, hv⟩, fun x H3 ⟨e1, e2⟩ => by
    subst e1
    have := e2 ps h2
    rw [hv] at this
    cases this
    exact ⟨StpE.refl s.ok, rv⟩⟩
theorem di_list (h : DE X W e d) : DI X W tg e (dIt itemsL d) := fun O0 =>
  PI.imp (pi_list (h O0)) fun σ H R ⟨env, ok, q⟩ => ⟨env, ok, EndE.bind q fun v e1 H1 s1 q1 p rp => by
    obtain ⟨ds, hd, q2⟩ := EndE.of q1
    cases rp with
    | lst h1 h2 h3 =>
      cases hd
      exact ⟨_, rfl, ⟨_, .inl (.inl h1)⟩, q2 H1 (StpE.refl s1.ok) _ (wk_list s1.ok h1 h2 h3)⟩
    | _ => cases hd⟩
theorem wk_tup {Y : Pm} {env : En} {σ : L2.St} {H : Hp} {l : Addr} {ds : List PyData} {ps : List V} (ok : Ok Y.K Y.O0 env σ H) (hl : SqT Y.K H l ps) (r : Rps Y.K (Al Y.O0 env σ) H ds ps) : Wk Y (Itt Y.K l) env σ H ds := fun env2 σ2 H2 s i => by
  have h2 : SqT Y.K H2 l ps := (s.goes ok).2 l ps hl
  have r2 := s.rps ok r
  refine ⟨fun d hd => ?_, fun hi => ⟨ps, h2, by rw [← r2.length]; exact hi⟩⟩
  obtain ⟨v, hv, rv⟩ := r2.get hd
  exact ⟨⟨ps, v, h2, hv⟩, fun x H3 ⟨e1, e2⟩ => by
    subst e1
    have := e2 ps h2
    rw [hv] at this
    cases this
    exact ⟨StpE.refl s.ok, rv⟩⟩
theorem di_tup (h : DE X W e d) : DI X W tg e (dIt itemsT d) := fun O0 =>
  PI.imp (pi_tup (h O0)) fun σ H R ⟨env, ok, q⟩ => ⟨env, ok, EndE.bind q fun v e1 H1 s1 q1 p rp => by
    obtain ⟨ds, hd, q2⟩ := EndE.of q1
    cases rp with
    | tup h1 h3 =>
      cases hd
      exact ⟨_, rfl, ⟨_, h1⟩, q2 H1 (StpE.refl s1.ok) _ (wk_tup s1.ok h1 h3)⟩
    | _ => cases hd⟩
/-- range -/
def rng (lo : Int) (n : Nat) : List PyData := (List.range n).map fun (i : Nat) => .int (lo + (i : Int))
theorem rng_get {lo : Int} {n i : Nat} {d : PyData} (h : (rng lo n)[i]? = some d) : i < n ∧ d = .int (lo + (i : Int)) := by
  unfold rng at h
  rw [List.getElem?_map] at h
  by_cases hi : i < n
  · rw [List.getElem?_range hi] at h
    exact ⟨hi, (Option.some.inj h).symm⟩
  · rw [List.getElem?_eq_none (by simpa using hi)] at h
    cases h
theorem wk_rng {Y : Pm} {env : En} {σ : L2.St} {H : Hp} {lo : Int} {n : Nat} : Wk Y (Itr lo n) env σ H (rng lo n) := fun env2 σ2 H2 s i =>
  ⟨fun d hd => by
    obtain ⟨hi, rfl⟩ := rng_get hd
    exact ⟨hi, fun x H3 ⟨e1, e2⟩ => by
      subst e1
      subst e2
      exact ⟨StpE.refl s.ok, .int _⟩⟩, fun hi => by
    unfold rng at hi
    rw [List.length_map, List.length_range] at hi
    exact hi⟩
def rng1 : List PyData → Option (List PyData)
  | [.int j] => if -(2 ^ 62) ≤ j ∧ j < 2 ^ 62 then some (rng 0 j.toNat) else none
  | _ => none
def rng2 : List PyData → Option (List PyData)
  | [.int i, .int j] => if -(2 ^ 62) ≤ i ∧ i < 2 ^ 62 ∧ -(2 ^ 62) ≤ j ∧ j < 2 ^ 62 then some (rng i (j - i).toNat) else none
  | _ => none
def dItA (f : List PyData → Option (List PyData)) (ds : List D) : DL := fun env => (dArgs ds env).bind fun (vs, e1) => (Out.of (f vs)).bind fun ds => .ok (ds, e1)
theorem di_range1 (hm : X.mg "range" = none) (ha : DAs X W [a] (dArgs [da])) (hg : Gl X "range" := by rfl) (hs : starEach [a] X.env = [(false, eval a X.env)] := by rfl) : DI X W tg (.Call (.Name "range" p) [a] [] pos) (dItA rng1 [da]) := fun O0 =>
  PI.imp (pi_range1 hg hm (ha O0) hs) fun σ H R ⟨env, ok, q⟩ => ⟨env, ok, EndE.bind q fun vs e1 H1 s1 q1 ps rps => by
    obtain ⟨ds, hd, q2⟩ := EndE.of q1
    clear q1
    unfold rng1 at hd
    split at hd
    · split at hd
      · rename_i hb
        cases hd
        cases rps with
        | cons r1 r2 =>
        cases r1
        cases r2
        exact ⟨_, rfl, hb.1, hb.2, q2 H1 (StpE.refl s1.ok) _ wk_rng⟩
      · cases hd
    · cases hd⟩
theorem di_range2 (hm : X.mg "range" = none) (ha : DAs X W [a, b] (dArgs [da, db])) (hg : Gl X "range" := by rfl) (hs : starEach [a, b] X.env = [(false, eval a X.env), (false, eval b X.env)] := by rfl) (hs2 : starEach [b] X.env = [(false, eval b X.env)] := by rfl) : DI X W tg (.Call (.Name "range" p) [a, b] [] pos) (dItA rng2 [da, db]) := fun O0 =>
  PI.imp (pi_range2 hg hm (ha O0) hs hs2) fun σ H R ⟨env, ok, q⟩ => ⟨env, ok, EndE.bind q fun vs e1 H1 s1 q1 ps rps => by
    obtain ⟨ds, hd, q2⟩ := EndE.of q1
    clear q1
    unfold rng2 at hd
    split at hd
    · split at hd
      · rename_i hb
        cases hd
        cases rps with
        | cons r1 r2 =>
        cases r1
        cases r2 with
        | cons r3 r4 =>
        cases r3
        cases r4
        exact ⟨_, _, rfl, hb, q2 H1 (StpE.refl s1.ok) _ wk_rng⟩
      · cases hd
    · cases hd⟩

/-! ### for -/
def loopF (g : DG) (body : DS) : List PyData → DS
  | [], env => .nx env
  | v :: vs, env => Out.ofS (g v env) fun e1 => match body e1 with
    | .nx e2 => loopF g body vs e2
    | .ct e2 => loopF g body vs e2
    | .bk e2 => .nx e2
    | o => o
def dFor (items : DL) (g : DG) (body : DS) : DS := fun env => (items env).goS fun vs e1 => loopF g body vs e1
theorem ds_for {g : DG} {body : List Stmt} {db : DS} (hp : PassesOwn (model X.prog X.w) X.A X.env X.xe) (hc : X.calm = true) (hi : DI X W tg iter dl) (hg : DGt X tg g) (hb : DSs X W body db)
    (hs : ∀ x, foldedSetIterable iter X.env x = pure x := by intro _; rfl) : DSt X W (.For tg iter body [] pos) (dFor dl g db) := fun O0 =>
  PS.imp (ps_for hp hc (hi O0) (hg (Cx.pm X W O0) rfl) (hb O0) hs) fun Dn σ H ⟨env, ok, q⟩ => ⟨env, ok, EndE.goS q fun items e1 H1 s1 q1 J wk => by
    refine ⟨fun i m σ2 H2 => ∃ env2, Stp X.K O0 e1 σ H1 env2 σ2 H2 ∧ i ≤ items.length ∧ m = items.length - i ∧ EndS (Cx.pm X W O0) env2 σ2 H2 Dn (loopF g db (items.drop i) env2),
      ⟨items.length, e1, Stp.refl s1.ok, Nat.zero_le _, rfl, q1⟩, fun i m σ2 H2 ⟨env2, s2, hle, hm, q2⟩ => ?_⟩
    by_cases hlt : i < items.length
    · obtain ⟨hgo, hy⟩ := (wk env2 σ2 H2 s2 i).1 items[i] (List.getElem?_eq_getElem hlt)
      rw [List.drop_eq_getElem_cons hlt] at q2
      obtain ⟨e3, he3, q3⟩ := EndS.of q2
      refine .inr ⟨hgo, fun σ' H' => ∃ env2, Stp X.K O0 e1 σ H1 env2 σ' H' ∧ EndS (Cx.pm X W O0) env2 σ' H' Dn (loopF g db (items.drop (i + 1)) env2), fun σ' H' ⟨e4, s4, q4⟩ => ⟨items.length - (i + 1), by omega, e4, s4, hlt, rfl, q4⟩, fun x H3 hx => ?_⟩
      obtain ⟨s3, rx⟩ := hy x H3 hx
      refine ⟨env2, items[i], e3, s3.ok, rx, he3, fun σ4 H4 s4 => ⟨e3, s4.ok, ?_⟩⟩
      have s34 : Stp X.K O0 e1 σ H1 e3 σ4 H4 := (s2.trans s3.step).trans s4
      have q5 := EndS.shift (s3.step.trans s4) q3
      cases hbo : db e3 with
      | nx e5 => rw [hbo] at q5; exact fun σ' H' s => ⟨e5, s34.trans s, EndS.shift s q5⟩
      | ct e5 => rw [hbo] at q5; exact fun σ' H' s => ⟨e5, s34.trans s, EndS.shift s q5⟩
      | bk e5 => rw [hbo] at q5; exact q5
      | rt v e5 => rw [hbo] at q5; exact q5
      | rl v e5 => rw [hbo] at q5; exact q5
      | ex c fs e5 => rw [hbo] at q5; exact q5
      | stuck => rw [hbo] at q5; exact q5
    · have hi : i = items.length := by omega
      subst hi
      rw [List.drop_length] at q2
      exact .inl ⟨(wk env2 σ2 H2 s2 _).2 (Nat.le_refl _), q2 σ2 H2 (Stp.refl s2.ok)⟩⟩

/-! ### while -/
def whileN (t : DT) (b : DS) : Nat → DS
  | 0, _ => .stuck
  | n + 1, env => (t env).goS fun v e1 => if v = true then (match b e1 with
      | .nx e2 => whileN t b n e2
      | .ct e2 => whileN t b n e2
      | .bk e2 => .nx e2
      | o => o) else .nx e1
open Classical in
noncomputable def dWhile (t : DT) (b : DS) : DS := fun env => if h : ∃ n, whileN t b n env ≠ .stuck then whileN t b h.choose env else .stuck
theorem whileN_up {t : DT} {b : DS} : ∀ {n : Nat} {env : En}, whileN t b n env ≠ .stuck → ∀ m, n ≤ m → whileN t b m env = whileN t b n env
  | 0, env, h, _, _ => absurd rfl h
  | n + 1, env, h, 0, hm => absurd hm (by omega)
  | n + 1, env, h, m + 1, hm => by
    unfold whileN at h ⊢
    cases ht : t env with
    | ok pr =>
      obtain ⟨v, e1⟩ := pr
      rw [ht] at h
      simp only [Out.goS_ok] at h ⊢
      cases v with
      | false => rfl
      | true =>
        simp only [if_true] at h ⊢
        cases hb : b e1 with
        | nx e2 => rw [hb] at h; exact whileN_up h m (by omega)
        | ct e2 => rw [hb] at h; exact whileN_up h m (by omega)
        | _ => rfl
    | ex c fs e1 => rfl
    | stuck => rfl
theorem dWhile_of {t : DT} {b : DS} {n : Nat} {env : En} (h : whileN t b n env ≠ .stuck) : dWhile t b env = whileN t b n env := by
  unfold dWhile
  have hx : ∃ n, whileN t b n env ≠ .stuck := ⟨n, h⟩
  rw [dif_pos hx]
  have h1 := hx.choose_spec
  rcases Nat.le_total hx.choose n with hl | hl
  · exact (whileN_up h1 n hl).symm
  · exact whileN_up h _ hl
/-- one turn of a while -/
theorem dWhile_eq (t : DT) (b : DS) (env : En) : dWhile t b env = (t env).goS fun v e1 => if v = true then (match b e1 with
      | .nx e2 => dWhile t b e2
      | .ct e2 => dWhile t b e2
      | .bk e2 => .nx e2
      | o => o) else .nx e1 := by
  have key : ∀ e2 : En, (∃ n, whileN t b n e2 ≠ .stuck) ∨ ((∀ n, whileN t b n e2 = .stuck) ∧ dWhile t b e2 = .stuck) := fun e2 => by
    by_cases hx : ∃ n, whileN t b n e2 ≠ .stuck
    · exact .inl hx
    · refine .inr ⟨fun n => ?_, ?_⟩
      · by_cases h : whileN t b n e2 = .stuck
        · exact h
        · exact absurd ⟨n, h⟩ hx
      · unfold dWhile
        rw [dif_neg hx]
  have fin : ∀ o : OutS, (∀ n, whileN t b (n + 1) env = .stuck) → dWhile t b env = .stuck := fun o h => by
    rcases key env with ⟨n, hn⟩ | ⟨_, h2⟩
    · cases n with
      | zero => exact absurd rfl hn
      | succ n => exact absurd (h n) hn
    · exact h2
  cases ht : t env with
  | ok pr =>
    obtain ⟨v, e1⟩ := pr
    have h1 : ∀ n, whileN t b (n + 1) env = if v = true then (match b e1 with
      | .nx e2 => whileN t b n e2
      | .ct e2 => whileN t b n e2
      | .bk e2 => .nx e2
      | o => o) else .nx e1 := fun n => by rw [whileN, ht]; rfl
    simp only [Out.goS_ok]
    cases v with
    | false => exact dWhile_of (n := 1) (by rw [h1]; simp) |>.trans (h1 0)
    | true =>
      simp only [if_true] at h1 ⊢
      cases hb : b e1 with
      | nx e2 =>
        rw [hb] at h1
        rcases key e2 with ⟨n, hn⟩ | ⟨h2, h3⟩
        · show _ = dWhile t b e2
          rw [dWhile_of hn, dWhile_of (n := n + 1) (by rw [h1]; exact hn)]
          exact h1 n
        · show _ = dWhile t b e2
          rw [h3]
          exact fin .stuck fun n => (h1 n).trans (h2 n)
      | ct e2 =>
        rw [hb] at h1
        rcases key e2 with ⟨n, hn⟩ | ⟨h2, h3⟩
        · show _ = dWhile t b e2
          rw [dWhile_of hn, dWhile_of (n := n + 1) (by rw [h1]; exact hn)]
          exact h1 n
        · show _ = dWhile t b e2
          rw [h3]
          exact fin .stuck fun n => (h1 n).trans (h2 n)
      | bk e2 => rw [hb] at h1; exact (dWhile_of (n := 1) (by rw [h1]; simp)).trans (h1 0)
      | rt v2 e2 => rw [hb] at h1; exact (dWhile_of (n := 1) (by rw [h1]; simp)).trans (h1 0)
      | rl v2 e2 => rw [hb] at h1; exact (dWhile_of (n := 1) (by rw [h1]; simp)).trans (h1 0)
      | ex c fs e2 => rw [hb] at h1; exact (dWhile_of (n := 1) (by rw [h1]; simp)).trans (h1 0)
      | stuck => rw [hb] at h1; exact fin .stuck h1
  | ex c fs e1 => exact (dWhile_of (n := 1) (by rw [whileN, ht]; simp)).trans (by rw [whileN, ht]; rfl)
  | stuck => exact fin .stuck fun n => by rw [whileN, ht]; rfl
theorem ds_while {t : DT} {body : List Stmt} {db : DS} (hp : PassesOwn (model X.prog X.w) X.A X.env X.xe) (hc : DTe X W c t) (hb : DSs X W body db) : DSt X W (.While c body [] pos) (dWhile t db) := fun O0 =>
  PS.imp (ps_while hp (hc O0) (hb O0)) fun Dn σ H ⟨env, ok, q⟩ => by
    obtain ⟨n0, q0⟩ : ∃ n, EndS (Cx.pm X W O0) env σ H Dn (whileN t db n env) := by
      unfold dWhile at q
      split at q
      · exact ⟨_, q⟩
      · exact q.elim
    refine ⟨fun m σ2 H2 => ∃ env2, Stp X.K O0 env σ H env2 σ2 H2 ∧ EndS (Cx.pm X W O0) env2 σ2 H2 Dn (whileN t db m env2), ⟨n0, env, Stp.refl ok, q0⟩, fun m σ2 H2 ⟨env2, s2, q2⟩ => ?_⟩
    cases m with
    | zero => exact (show False from q2).elim
    | succ m =>
      rw [whileN] at q2
      refine ⟨env2, s2.ok, EndE.goS q2 fun v e1 H1 s1 q1 => ?_⟩
      cases v with
      | false => exact q1 σ2 H1 (Stp.refl s1.ok)
      | true =>
        refine ⟨fun σ' H' => ∃ env2, Stp X.K O0 env σ H env2 σ' H' ∧ EndS (Cx.pm X W O0) env2 σ' H' Dn (whileN t db m env2), fun σ' H' h => ⟨m, by omega, h⟩, e1, s1.ok, ?_⟩
        have s3 := s2.trans s1.step
        simp only [if_true] at q1
        cases hbo : db e1 with
        | nx e5 => rw [hbo] at q1; exact fun σ' H' s => ⟨e5, s3.trans s, EndS.shift s q1⟩
        | ct e5 => rw [hbo] at q1; exact fun σ' H' s => ⟨e5, s3.trans s, EndS.shift s q1⟩
        | bk e5 => rw [hbo] at q1; exact q1
        | rt v e5 => rw [hbo] at q1; exact q1
        | rl v e5 => rw [hbo] at q1; exact q1
        | ex c fs e5 => rw [hbo] at q1; exact q1
        | stuck => rw [hbo] at q1; exact q1

/-! ### a, b = x, y -/
def dPar (i j : Nat) (a b : D) : DS := fun env => (dArgs [a, b] env).goS fun vs e1 => Out.ofS (match vs with
  | [v, w] => (setPv e1 i v).bind fun e2 => setPv e2 j w
  | _ => none) fun e2 => .nx e2
theorem ds_par {i j : Nat} {px py pt : Pos} {kt k2 pt2} (hc : X.calm = true) (hN : X.N.Nodup) (hi : X.N[i]? = some x) (hj : X.N[j]? = some y) (hij : i ≠ j)
    (hx : X.env.scope.names.lookup x = some .local) (hy : X.env.scope.names.lookup y = some .local) (ha : DAs X W [a, b] (dArgs [da, db]))
    (hw : swappedStores [.Tuple [.Name x px, .Name y py] kt pt] (.Tuple [a, b] k2 pt2) X.env = pure (some [x, y]) := by rfl)
    (hs : swapsWithSole [.Tuple [.Name x px, .Name y py] kt pt] (.Tuple [a, b] k2 pt2) pos.line X.env = pure false := by rfl) :
    DSt X W (.Assign [.Tuple [.Name x px, .Name y py] kt pt] (.Tuple [a, b] k2 pt2) pos) (dPar i j da db) := fun O0 =>
  PS.imp (ps_par hc hN hi hj hij hx hy (ha O0) hw hs) fun Dn σ H ⟨env, ok, q⟩ => ⟨env, ok, EndE.goS q fun vs e1 H1 s1 q1 ps rps => by
    obtain ⟨e2, h2, q2⟩ := EndS.of q1
    split at h2
    · rename_i v w
      cases rps with
      | cons r1 r2 =>
      cases r2 with
      | cons r2 r3 =>
      cases r3
      cases h3 : setPv e1 i v with
      | none => rw [h3] at h2; cases h2
      | some e3 =>
        rw [h3] at h2
        obtain ⟨hf, rfl⟩ := setPv_free h3
        obtain ⟨hf2, rfl⟩ := setPv_free (show setPv _ j w = some e2 from h2)
        have st := Stp.setPv s1.ok hf r1
        exact ⟨_, _, rfl, q2 _ _ (st.trans (Stp.setPv st.ok hf2 (st.rp s1.ok r2)))⟩
    · cases h2⟩
end
end TL

/-! TL9: defs and their calls. -/
namespace TL
open PySem PySem.Spec PyProof.Rows L2

inductive OutF where
  | val (v : PyData) (as : List Sl)
  | fresh (ds : List PyData) (as : List Sl)
  | ex (c : Str) (fs : List (Str × PyData)) (as : List Sl)
  | stuck
abbrev Fn := List Sl → OutF
def slots (as : List Sl) : En := as.map some
def Sl.arg : Sl → Bool
  | .ow _ => false
  | _ => true

def EndF (K : PySem.W.Frag) (mg : Str → Option Value) (O0 : Addr → Prop) (as : List Sl) (vs : List V) (H : Hp) (Q : VK) (E : XK) : OutF → Prop
  | .val v as' => ∀ H' p, StpE K O0 (slots as) (vs.map some) H (slots as') H' → Rp K (Al O0 (slots as') (vs.map some)) H' v p → Q p H'
  | .fresh ds as' => ∀ H' a ps, StpE K O0 (slots as) (vs.map some) H (slots as') H' → Fresh K O0 H (slots as') (vs.map some) H' a ds ps → Q (.ref a) H'
  | .ex c fs as' => ∀ H' cls d, StpE K O0 (slots as) (vs.map some) H (slots as') H' → XRep mg K (Al O0 (slots as') (vs.map some)) H' c fs cls d → E cls d H'
  | .stuck => False
/-- a def's promise: it does what F tells -/
def spOf (K : PySem.W.Frag) (mg : Str → Option Value) (n : Nat) (F : Fn) : Sp := fun vs H Q E => ∃ O0 as, as.length = n ∧ as.all Sl.arg = true ∧ Ok K O0 (slots as) (vs.map some) H ∧ EndF K mg O0 as vs H Q E (F as)

def backAt : Sl → Option (Option Sl) → Sl
  | .io _, some (some (.io ds')) => .io ds'
  | s, _ => s
def backs (as : List Sl) (e : En) : List Sl := as.mapIdx fun i s => backAt s e[i]?
def runF (n : Nat) (body : DS) : Fn := fun as => match body (slots as ++ List.replicate (n - as.length) none) with
  | .nx env => .val .none (backs as env)
  | .rt v env => .val v (backs as env)
  | .rl ds env => .fresh ds (backs as env)
  | .ex c fs env => .ex c fs (backs as env)
  | _ => .stuck

theorem backs_len (as : List Sl) (e : En) : (backs as e).length = as.length := by simp [backs]
theorem backs_get (as : List Sl) (e : En) (i : Nat) : (backs as e)[i]? = as[i]?.map fun s => backAt s e[i]? := by
  unfold backs
  rw [List.getElem?_mapIdx]
theorem back_io {ds ds' : List PyData} {e : Option (Option Sl)} (h : e = some (some (.io ds'))) : backAt (.io ds) e = .io ds' := by
  subst h
  rfl
theorem back_no {s : Sl} {e : Option (Option Sl)} (h : s.mut = false) : backAt s e = s := by
  cases s with
  | io ds => cases h
  | pv d => rfl
  | ow ds => cases h
  | sc ns => rfl

theorem slots_get {as : List Sl} {i : Nat} {s : Sl} : (slots as)[i]? = some (some s) ↔ as[i]? = some s := by
  unfold slots
  rw [List.getElem?_map]
  cases as[i]? <;> simp
theorem pad_get {α : Type} {as : List α} {n i : Nat} {s : α} : (as.map some ++ List.replicate n none)[i]? = some (some s) ↔ as[i]? = some s := by
  by_cases hi : i < as.length
  · rw [List.getElem?_append_left (by simpa using hi), List.getElem?_map]
    cases as[i]? <;> simp
  · rw [List.getElem?_append_right (by simpa using hi), List.getElem?_eq_none (by omega : as.length ≤ i)]
    constructor
    · intro h
      have := List.getElem?_eq_some_iff.mp h
      obtain ⟨h1, h2⟩ := this
      rw [List.getElem_replicate] at h2
      cases h2
    · intro h
      cases h
theorem vals_get {vs : List V} {i : Nat} {v : V} : (vs.map some)[i]? = some (some v) ↔ vs[i]? = some v := by
  rw [List.getElem?_map]
  cases vs[i]? <;> simp

section
variable {K : PySem.W.Frag} {mg : Str → Option Value} {O0 : Addr → Prop} {as : List Sl} {vs : List V} {H H' : Hp} {n m : Nat}
theorem own_pad {a : Addr} : Own (slots as ++ List.replicate n none) (vs.map some ++ List.replicate m none) a ↔ Own (slots as) (vs.map some) a := by
  constructor
  · rintro ⟨i, s, h1, hm, h2⟩
    exact ⟨i, s, slots_get.mpr (pad_get.mp h1), hm, vals_get.mpr (pad_get.mp h2)⟩
  · rintro ⟨i, s, h1, hm, h2⟩
    exact ⟨i, s, pad_get.mpr (slots_get.mp h1), hm, pad_get.mpr (vals_get.mp h2)⟩
theorem al_pad {a : Addr} : Al O0 (slots as ++ List.replicate n none) (vs.map some ++ List.replicate m none) a ↔ Al O0 (slots as) (vs.map some) a := by
  unfold Al
  rw [own_pad]
theorem Goes.shrink {O O' : Addr → Prop} (h : ∀ a, O' a → O a) : Goes K O H O' H := ⟨fun c xs e n => ⟨e, fun z => n (h c z)⟩, fun c xs e => e⟩
theorem RS.shrink {O O' : Addr → Prop} (h : ∀ a, O' a → O a) {s : Sl} {v : V} (r : RS K O H s v) : RS K O' H s v := RS.goes (Goes.shrink h) (fun _ _ e => e) (fun _ _ e => e) r
theorem Ok.pad (ok : Ok K O0 (slots as) (vs.map some) H) (hl : n + as.length = m + vs.length) : Ok K O0 (slots as ++ List.replicate n none) (vs.map some ++ List.replicate m none) H where
  len := by
    have := ok.len
    unfold slots at this ⊢
    simp at this ⊢
    omega
  val := fun i s e => by
    obtain ⟨v, h1, h2⟩ := ok.val i s (slots_get.mpr (pad_get.mp e))
    exact ⟨v, pad_get.mpr (vals_get.mp h1), RS.shrink (fun a z => al_pad.mp z) h2⟩
  inj := fun i j s t a h1 h2 h3 h4 h5 h6 => ok.inj i j s t a (slots_get.mpr (pad_get.mp h1)) h2 (slots_get.mpr (pad_get.mp h3)) h4 (vals_get.mpr (pad_get.mp h5)) (vals_get.mpr (pad_get.mp h6))
  lst := ok.lst
  dis := fun a h => ok.dis a (own_pad.mp h)
theorem arg_mut {s : Sl} (h : s.arg = true) (hm : s.mut = true) : ∃ ds, s = .io ds := by
  cases s with
  | io ds => exact ⟨ds, rfl⟩
  | pv d => cases hm
  | ow ds => cases h
  | sc ns => cases hm
theorem arg_of (ha : as.all Sl.arg = true) {i : Nat} {s : Sl} (e : as[i]? = some s) : s.arg = true := List.all_eq_true.mp ha s (List.mem_of_getElem? e)
/-- behind a def's body: the arguments -/
theorem back_step {env' : En} {σ' : L2.St} (ha : as.all Sl.arg = true) (ok : Ok K O0 (slots as) (vs.map some) H) (hl : n + as.length = m + vs.length) (s : Stp K O0 (slots as ++ List.replicate n none) (vs.map some ++ List.replicate m none) H env' σ' H') :
    StpE K O0 (slots as) (vs.map some) H (slots (backs as env')) H' ∧ (∀ a, Own (slots (backs as env')) (vs.map some) a → Own env' σ' a) ∧
      ∀ O1 : Addr → Prop, Ok K O1 env' σ' H' → (∀ b, O1 b → O0 b ∨ H b = none) → Ok K O1 (slots (backs as env')) (vs.map some) H' := by
  have ok0 := ok.pad (m := m) hl
  have hv : as.length = vs.length := by simpa [slots] using ok.len
  have io : ∀ (i : Nat) (ds : List PyData), as[i]? = some (Sl.io ds) → (∃ ds', env'[i]? = some (some (Sl.io ds'))) ∧ σ'[i]? = (vs.map some)[i]? := fun i ds e => by
    obtain ⟨h1, h2⟩ := s.io i ds (pad_get.mpr e)
    refine ⟨h1, h2.trans ?_⟩
    have hi : i < as.length := (List.getElem?_eq_some_iff.mp e).1
    rw [List.getElem?_append_left (by simp; omega)]
  -- what stands in the arguments behind it
  have bio : ∀ (i : Nat) (t : Sl), (backs as env')[i]? = some t → (∃ ds ds', as[i]? = some (Sl.io ds) ∧ env'[i]? = some (some (Sl.io ds')) ∧ t = .io ds' ∧ σ'[i]? = (vs.map some)[i]?) ∨ (as[i]? = some t ∧ t.mut = false) := fun i t e => by
    rw [backs_get] at e
    cases hg : as[i]? with
    | none => rw [hg] at e; cases e
    | some u =>
      rw [hg] at e
      have e' : backAt u env'[i]? = t := Option.some.inj e
      cases hm : u.mut with
      | false =>
        rw [back_no hm] at e'
        subst e'
        exact .inr ⟨rfl, hm⟩
      | true =>
        obtain ⟨ds, rfl⟩ := arg_mut (arg_of ha hg) hm
        obtain ⟨⟨ds', h4⟩, h5⟩ := io i ds hg
        rw [back_io h4] at e'
        exact .inl ⟨ds, ds', rfl, h4, e'.symm, h5⟩
  have ownB : ∀ a, Own (slots (backs as env')) (vs.map some) a → Own env' σ' a ∧ Own (slots as) (vs.map some) a := fun a ⟨i, t, h1, hm, h2⟩ => by
    rcases bio i t (slots_get.mp h1) with ⟨ds, ds', e1, e2, e3, e4⟩ | ⟨_, e2⟩
    · subst e3
      exact ⟨⟨i, _, e2, rfl, e4.trans h2⟩, ⟨i, _, slots_get.mpr e1, rfl, h2⟩⟩
    · rw [hm] at e2
      cases e2
  have keep : ∀ a o, H a = some o → ¬ Own (slots as) (vs.map some) a → H' a = some o := fun a o e n => s.keep a o e fun z => n (own_pad.mp z)
  have alB : ∀ a, Al O0 (slots (backs as env')) (vs.map some) a → Al O0 env' σ' a := fun a z => z.elim .inl fun z => .inr (ownB a z).1
  have main : ∀ O1 : Addr → Prop, Ok K O1 env' σ' H' → (∀ b, O1 b → O0 b ∨ H b = none) → Ok K O1 (slots (backs as env')) (vs.map some) H' := fun O1 ok1 ho1 => by
   have alB : ∀ a, Al O1 (slots (backs as env')) (vs.map some) a → Al O1 env' σ' a := fun a z => z.elim .inl fun z => .inr (ownB a z).1
   have g1 : Goes K (Al O0 (slots as) (vs.map some)) H (Al O1 (slots (backs as env')) (vs.map some)) H' :=
    ⟨fun c xs e n => ⟨keep c _ e fun z => n (.inr z), fun z => z.elim (fun z => (ho1 c z).elim (fun z => n (.inl z)) fun z => by rw [e] at z; cases z) fun z => n (.inr (ownB c z).2)⟩, fun c xs e => SqT.keep ok keep e⟩
   refine ⟨?_, fun i t e => ?_, fun i j t u a h1 h2 h3 h4 h5 h6 => ?_, ok1.lst, fun a z => ok1.dis a (ownB a z).1⟩
   · simp only [slots, List.length_map, backs_len]
     exact hv
   · rcases bio i t (slots_get.mp e) with ⟨ds, ds', e1, e2, e3, e4⟩ | ⟨e1, e2⟩
     · subst e3
       obtain ⟨v, h1, h2⟩ := ok1.val i _ e2
       exact ⟨v, e4.symm.trans h1, RS.shrink alB h2⟩
     · obtain ⟨v, h1, h2⟩ := ok.val i t (slots_get.mpr e1)
       refine ⟨v, h1, ?_⟩
       cases t with
       | pv d => exact Rp.goes g1 _ _ h2
       | ow es => cases e2
       | io es => cases e2
       | sc ns =>
         obtain ⟨a, f1, f2⟩ := h2
         refine ⟨a, f1, f2.elim (fun ⟨o, h⟩ => .inl ⟨o, keep a _ h fun z => ?_⟩) .inr⟩
         obtain ⟨xs, e⟩ := ok.own z
         rw [h] at e
         cases e
   · rcases bio i t (slots_get.mp h1) with ⟨ds, ds', e1, e2, e3, e4⟩ | ⟨e1, e2⟩
     · rcases bio j u (slots_get.mp h3) with ⟨es, es', f1, f2, f3, f4⟩ | ⟨f1, f2⟩
       · exact ok.inj i j _ _ a (slots_get.mpr e1) rfl (slots_get.mpr f1) rfl h5 h6
       · rw [h4] at f2
         cases f2
     · rw [h2] at e2
       cases e2
  refine ⟨⟨main O0 s.ok fun b z => .inl z, keep, s.dom, fun a z => (ownB a z).2, fun i ds e => ?_⟩, fun a z => (ownB a z).1, main⟩
  · obtain ⟨⟨ds', h4⟩, _⟩ := io i ds (slots_get.mp e)
    exact ⟨ds', slots_get.mpr (by rw [backs_get, slots_get.mp e]; exact congrArg some (back_io h4))⟩
end

theorem fn_tells0 {P : Program} {w : World} {K : PySem.W.Frag} {mg : Str → Option Value} {base : Heap} {x qual : Str} {st : Stmt} {f : Addr} {fd : FuncData} {N ps : List Str} {k : Nat} {body : DS} (F : Fun K x qual st f fd) (S : FnScope N ps (defScope st))
    (hb : ∀ (cdv : Value) (A : Around) (outer : List Env) (s : Shared) (H : Hp) (E : XK), Gd (cxOf (L2.CX P w) P w K mg base N qual (defScope st) f cdv A outer s H E) (fun cls d _ H' => E cls d H') k →
      DSs (cxOf (L2.CX P w) P w K mg base N qual (defScope st) f cdv A outer s H E) (fun cls d _ H' => E cls d H') (defBody st) body)
    (hN : ps.length ≤ N.length := by decide) :
    FnOk P w K mg base (L2.CX P w) (k + 1) f fd ps (spOf K mg ps.length (runF N.length body)) := by
  refine F.okX S (fun vs H Q E h => ?_) (fun cdv A outer s H vs Q E hr h => ?_)
  · obtain ⟨O0, as, hn, _, ok, _⟩ := h
    have hv : as.length = vs.length := by simpa [slots] using ok.len
    omega
  · obtain ⟨O0, as, hn, ha, ok, q⟩ := h
    have hv : as.length = vs.length := by simpa [slots] using ok.len
    have tk : Takes (cxOf (L2.CX P w) P w K mg base N qual (defScope st) f cdv A outer s H E) (fun cls d _ H' => E cls d H') := takes_of rfl rfl rfl rfl
    have G : Gd (cxOf (L2.CX P w) P w K mg base N qual (defScope st) f cdv A outer s H E) (fun cls d _ H' => E cls d H') k := ⟨rfl, hr, tk, passes_of rfl, S.nd⟩
    refine ⟨_, hb cdv A outer s H E G O0, slots as ++ List.replicate (N.length - as.length) none, ok.pad (by omega), ?_⟩
    unfold runF at q
    have hl : N.length - as.length + as.length = N.length - vs.length + vs.length := by omega
    cases hbo : body (slots as ++ List.replicate (N.length - as.length) none) with
    | nx env =>
      rw [hbo] at q
      exact fun σ' H' st => q H' _ (back_step ha ok hl st).1 .non
    | rt v env =>
      rw [hbo] at q
      exact fun σ' H' p st r => q H' p (back_step ha ok hl st).1 (Rp.goes (Goes.shrink fun a z => z.elim .inl fun z => .inr ((back_step ha ok hl st).2.1 a z)) _ _ r)
    | rl ds env =>
      rw [hbo] at q
      refine fun σ' H' a ps st fr => q H' a ps (back_step ha ok hl st).1 ?_
      obtain ⟨b1, b2, b3⟩ := back_step ha ok hl st
      have g : Goes K (Al (With O0 a) env σ') H' (Al (With O0 a) (slots (backs as env)) (vs.map some)) H' := Goes.shrink fun b z => z.elim .inl fun z => .inr (b2 b z)
      exact ⟨fr.new, b3 _ fr.ok fun b z => z.elim .inl fun z => .inr (by rw [z]; exact fr.new), fr.at', Rps.goes g _ _ fr.rps⟩
    | bk env => rw [hbo] at q; exact q.elim
    | ct env => rw [hbo] at q; exact q.elim
    | ex c fs env =>
      rw [hbo] at q
      refine fun σ' H' cls d st xr => q H' cls d (back_step ha ok hl st).1 ?_
      obtain ⟨C, dd, ps, h1, h2, h3, h4, h5⟩ := xr
      exact ⟨C, dd, ps, h1, h2, h3, h4, Paired.mapP h5 fun f p z => ⟨z.1, Rp.goes (Goes.shrink fun a z => z.elim .inl fun z => .inr ((back_step ha ok hl st).2.1 a z)) _ _ z.2⟩⟩
    | stuck => rw [hbo] at q; exact q.elim
/-- the body of a def tells what it does -/
theorem fn_tells {P : Program} {w : World} {K : PySem.W.Frag} {mg : Str → Option Value} {base : Heap} {x qual : Str} {st : Stmt} {f : Addr} {fd : FuncData} {N ps : List Str} {k n m : Nat} {body : DS} (F : Fun K x qual st f fd) (S : FnScope N ps (defScope st)) (hn : N.length = n) (hm : ps.length = m) (hl : m ≤ n)
    (hb : ∀ (cdv : Value) (A : Around) (outer : List Env) (s : Shared) (H : Hp) (E : XK), Gd (cxOf (L2.CX P w) P w K mg base N qual (defScope st) f cdv A outer s H E) (fun cls d _ H' => E cls d H') k →
      DSs (cxOf (L2.CX P w) P w K mg base N qual (defScope st) f cdv A outer s H E) (fun cls d _ H' => E cls d H') (defBody st) body) :
    FnOk P w K mg base (L2.CX P w) (k + 1) f fd ps (spOf K mg m (runF n body)) := by
  subst hn
  subst hm
  exact fn_tells0 F S hb hl
end TL

/-! TL10: calls of the text's own defs. -/
namespace TL
open PySem PySem.Spec PyProof.Rows L2

/-- slot i, to be handed on -/
def refAt (env : En) (i : Nat) : Option Sl := match env[i]? with
  | some (some (.ow ds)) => some (.io ds)
  | some (some (.io ds)) => some (.io ds)
  | some (some (.sc ns)) => some (.sc ns)
  | _ => none
def putRef (env : En) (i : Nat) : Sl → List Sl → En
  | .io _, .io ds' :: _ => putOw env i ds'
  | _, _ => env
def Out.call (o : OutF) (f : List Sl → En) : Out (PyData × En) := match o with
  | .val v as => .ok (v, f as)
  | .fresh ds as => .ok (.list ds, f as)
  | .ex c fs as => .ex c fs (f as)
  | .stuck => .stuck
def Out.callF (o : OutF) (f : List Sl → En) : Out (List PyData × En) := match o with
  | .fresh ds as => .ok (ds, f as)
  | .ex c fs as => .ex c fs (f as)
  | _ => .stuck
def dCall (F : Fn) (ds : List D) : D := fun env => (dArgs ds env).bind fun (vs, e1) => Out.call (F (vs.map .pv)) fun _ => e1
def fCall (F : Fn) (ds : List D) : DL := fun env => (dArgs ds env).bind fun (vs, e1) => Out.callF (F (vs.map .pv)) fun _ => e1
def dCallS (F : Fn) (i : Nat) (ds : List D) : D := fun env => (Out.of (refAt env i)).bind fun _ => (dArgs ds env).bind fun (vs, e1) => (Out.of (refAt e1 i)).bind fun s => Out.call (F (s :: vs.map .pv)) fun as => putRef e1 i s as
def fCallS (F : Fn) (i : Nat) (ds : List D) : DL := fun env => (Out.of (refAt env i)).bind fun _ => (dArgs ds env).bind fun (vs, e1) => (Out.of (refAt e1 i)).bind fun s => Out.callF (F (s :: vs.map .pv)) fun as => putRef e1 i s as

section
variable {K : PySem.W.Frag} {mg : Str → Option Value} {O0 : Addr → Prop} {e1 : En} {σ : L2.St} {H1 H' : Hp} {i : Nat} {s : Sl} {p0 : V} {vs : List PyData} {ps : List V}
theorem all_arg (h : s.arg = true) : (s :: vs.map Sl.pv).all Sl.arg = true := by
  rw [List.all_cons, h, List.all_map]
  simp [Sl.arg]
theorem pv_own : ∀ {vs : List PyData} {ps : L2.St} {a : Addr}, ¬ Own (slots (vs.map .pv)) ps a := fun {vs ps a} ⟨i, s, h1, h2, _⟩ => by
  have := slots_get.mp h1
  rw [List.getElem?_map] at this
  cases h : vs[i]? with
  | none => rw [h] at this; cases this
  | some d =>
    rw [h] at this
    cases this
    cases h2
theorem ok_pure (ok : Ok K O0 e1 σ H1) (r : Rps K (Al O0 e1 σ) H1 vs ps) : Ok K (Al O0 e1 σ) (slots (vs.map .pv)) (ps.map some) H1 where
  len := by simp [slots, r.length]
  val := fun i s e => by
    have e' := slots_get.mp e
    rw [List.getElem?_map] at e'
    cases h : vs[i]? with
    | none => rw [h] at e'; cases e'
    | some d =>
      rw [h] at e'
      cases e'
      obtain ⟨v, h1, h2⟩ := r.get h
      exact ⟨v, vals_get.mpr h1, Rp.goes (Goes.shrink fun a z => z.elim id fun z => absurd z pv_own) _ _ h2⟩
  inj := fun i j s t a h1 h2 _ _ h5 _ => absurd ⟨i, s, h1, h2, h5⟩ pv_own
  lst := fun a h => ok.al h
  dis := fun a h => absurd h pv_own
theorem same_ok (ok : Ok K O0 e1 σ H1) (keep : ∀ a o, H1 a = some o → H' a = some o) : Ok K O0 e1 σ H' :=
  ok.goes ⟨fun b xs h n => ⟨keep _ _ h, n⟩, fun b xs h => SqT.keep ok (fun a o h _ => keep a o h) h⟩ (fun _ _ _ h => keep _ _ h) (fun a ns h => h.elim (fun ⟨o, h⟩ => .inl ⟨o, keep _ _ h⟩) .inr) (fun a h => by
    obtain ⟨xs, e⟩ := ok.lst a h
    exact ⟨xs, keep _ _ e⟩) ok.dis
theorem pure_step {as' : List Sl} (ok : Ok K O0 e1 σ H1) (s : StpE K (Al O0 e1 σ) (slots (vs.map .pv)) (ps.map some) H1 (slots as') H') : StpE K O0 e1 σ H1 e1 H' :=
  have keep : ∀ a o, H1 a = some o → H' a = some o := fun a o h => s.keep a o h pv_own
  ⟨same_ok ok keep, fun a o h _ => keep a o h, s.dom, fun _ h => h, fun i ds e => ⟨ds, e⟩⟩
/-- the addresses that the callee must let be -/
def Oth (O0 : Addr → Prop) (e1 : En) (σ : L2.St) (s : Sl) (p0 : V) : Addr → Prop := fun a => Al O0 e1 σ a ∧ ¬ (s.mut = true ∧ p0 = .ref a)
theorem refAt_ok (ok : Ok K O0 e1 σ H1) (h : refAt e1 i = some s) : ∃ p0 t, σ[i]? = some (some p0) ∧ e1[i]? = some (some t) ∧ t.mut = s.mut ∧ s.arg = true ∧ RS K (Al O0 e1 σ) H1 s p0 ∧ (s.mut = true → ∃ a, p0 = .ref a) := by
  unfold refAt at h
  split at h
  · rename_i ds e
    cases h
    obtain ⟨v, h1, h2⟩ := ok.val i _ e
    exact ⟨v, _, h1, e, rfl, rfl, h2, fun _ => by obtain ⟨a, qs, h, _⟩ := h2; exact ⟨a, h⟩⟩
  · rename_i ds e
    cases h
    obtain ⟨v, h1, h2⟩ := ok.val i _ e
    exact ⟨v, _, h1, e, rfl, rfl, h2, fun _ => by obtain ⟨a, qs, h, _⟩ := h2; exact ⟨a, h⟩⟩
  · rename_i ns e
    cases h
    obtain ⟨v, h1, h2⟩ := ok.val i _ e
    exact ⟨v, _, h1, e, rfl, rfl, h2, fun z => by cases z⟩
  · cases h
theorem own_cons {a : Addr} : Own (slots (s :: vs.map .pv)) ((p0 :: ps).map some) a ↔ (s.mut = true ∧ p0 = .ref a) := by
  constructor
  · rintro ⟨j, t, h1, h2, h3⟩
    cases j with
    | zero =>
      have h1' := slots_get.mp h1
      have h3' := vals_get.mp h3
      simp at h1' h3'
      subst h1'
      exact ⟨h2, h3'⟩
    | succ j => exact absurd ⟨j, t, slots_get.mpr (by have := slots_get.mp h1; simpa using this), h2, vals_get.mpr (by have := vals_get.mp h3; simpa using this)⟩ (pv_own (vs := vs) (ps := ps.map some) (a := a))
  · rintro ⟨h1, h2⟩
    exact ⟨0, s, slots_get.mpr (by simp), h1, vals_get.mpr (by simp [h2])⟩
theorem ok_ref (ok : Ok K O0 e1 σ H1) (hs : σ[i]? = some (some p0)) {t : Sl} (ht : e1[i]? = some (some t)) (htm : t.mut = s.mut) (rs : RS K (Al O0 e1 σ) H1 s p0) (r : Rps K (Al O0 e1 σ) H1 vs ps) : Ok K (Oth O0 e1 σ s p0) (slots (s :: vs.map .pv)) ((p0 :: ps).map some) H1 := by
  have sub : ∀ a, Al (Oth O0 e1 σ s p0) (slots (s :: vs.map .pv)) ((p0 :: ps).map some) a → Al O0 e1 σ a := fun a z => z.elim (fun z => z.1) fun z => by
    obtain ⟨h1, h2⟩ := own_cons.mp z
    exact .inr ⟨i, t, ht, htm.trans h1, by rw [hs, h2]⟩
  refine ⟨by simp [slots, r.length], fun j u e => ?_, fun j l u w a h1 h2 h3 h4 h5 h6 => ?_, fun a h => ok.al h.1, fun a h z => z.2 (own_cons.mp h)⟩
  · cases j with
    | zero =>
      have e' := slots_get.mp e
      simp at e'
      subst e'
      exact ⟨p0, vals_get.mpr (by simp), RS.shrink sub rs⟩
    | succ j =>
      have e' := slots_get.mp e
      simp only [List.getElem?_cons_succ, List.getElem?_map] at e'
      cases h : vs[j]? with
      | none => rw [h] at e'; cases e'
      | some d =>
        rw [h] at e'
        cases e'
        obtain ⟨v, h1, h2⟩ := r.get h
        exact ⟨v, vals_get.mpr (by simpa using h1), Rp.goes (Goes.shrink sub) _ _ h2⟩
  · have key : ∀ (j : Nat) (u : Sl), (slots (s :: vs.map .pv))[j]? = some (some u) → u.mut = true → j = 0 := fun j u h1 h2 => by
      cases j with
      | zero => rfl
      | succ j =>
        have e' := slots_get.mp h1
        simp only [List.getElem?_cons_succ, List.getElem?_map] at e'
        cases h : vs[j]? with
        | none => rw [h] at e'; cases e'
        | some d => rw [h] at e'; cases e'; cases h2
    rw [key j u h1 h2, key l w h3 h4]
/-- behind the call of a def that was handed slot i -/
theorem ref_step {as' : List Sl} (ok : Ok K O0 e1 σ H1) (hr : refAt e1 i = some s) (hs : σ[i]? = some (some p0)) {t : Sl} (ht : e1[i]? = some (some t)) (htm : t.mut = s.mut)
    (st : StpE K (Oth O0 e1 σ s p0) (slots (s :: vs.map .pv)) ((p0 :: ps).map some) H1 (slots as') H') :
    StpE K O0 e1 σ H1 (putRef e1 i s as') H' ∧ (∀ a, Al O0 (putRef e1 i s as') σ a → Al (Oth O0 e1 σ s p0) (slots as') ((p0 :: ps).map some) a) ∧
      ∀ b, H1 b = none → Ok K (With (Oth O0 e1 σ s p0) b) (slots as') ((p0 :: ps).map some) H' → Ok K (With O0 b) (putRef e1 i s as') σ H' := by
  have keep : ∀ a o, H1 a = some o → ¬ (s.mut = true ∧ p0 = .ref a) → H' a = some o := fun a o h n => st.keep a o h fun z => n (own_cons.mp z)
  cases s with
  | pv d => unfold refAt at hr; split at hr <;> cases hr
  | ow ds => unfold refAt at hr; split at hr <;> cases hr
  | sc ns =>
    have keep' : ∀ a o, H1 a = some o → H' a = some o := fun a o h => keep a o h fun z => by cases z.1
    have hp : putRef e1 i (.sc ns) as' = e1 := rfl
    rw [hp]
    refine ⟨⟨same_ok ok keep', fun a o h _ => keep' a o h, st.dom, fun _ h => h, fun j ds e => ⟨ds, e⟩⟩, fun a z => .inl ⟨z, fun z => by cases z.1⟩, fun b hb okb => ?_⟩
    refine ok.goes ⟨fun c xs h n => ⟨keep' _ _ h, fun z => z.elim (fun z => z.elim (fun z => n (.inl z)) fun z => by rw [z, hb] at h; cases h) fun z => n (.inr z)⟩, fun c xs h => SqT.keep ok (fun a o h _ => keep' a o h) h⟩ (fun _ _ _ h => keep' _ _ h) (fun a ns h => h.elim (fun ⟨o, h⟩ => .inl ⟨o, keep' _ _ h⟩) .inr) (fun a z => z.elim (fun z => by
      obtain ⟨xs, e⟩ := ok.lst a z
      exact ⟨xs, keep' _ _ e⟩) fun z => okb.lst a (.inr z)) fun a h z => z.elim (ok.dis a h) fun z => by
        obtain ⟨xs, e⟩ := ok.own h
        rw [z, hb] at e
        cases e
  | io ds =>
    -- the slot's list, changed by the callee
    have ht' : ∃ a qs, p0 = .ref a ∧ H1 a = some (.lst qs) := by
      obtain ⟨v, h1, h2⟩ := ok.val i _ ht
      rw [hs] at h1
      cases h1
      cases t with
      | pv d => cases htm
      | sc ns => cases htm
      | ow es => obtain ⟨a, qs, f1, f2, _⟩ := h2; exact ⟨a, qs, f1, f2⟩
      | io es => obtain ⟨a, qs, f1, f2, _⟩ := h2; exact ⟨a, qs, f1, f2⟩
    obtain ⟨a0, qs0, rfl, ha0⟩ := ht'
    obtain ⟨ds', hds⟩ := st.io 0 ds (slots_get.mpr (by simp))
    have hds := slots_get.mp hds
    obtain ⟨r', rfl⟩ : ∃ r', as' = .io ds' :: r' := by
      cases as' with
      | nil => simp at hds
      | cons x r' =>
        have : x = .io ds' := by simpa using hds
        exact ⟨r', by rw [this]⟩
    have hp : putRef e1 i (.io ds) (.io ds' :: r') = e1.set i (some (t.put ds')) := by
      show putOw e1 i ds' = _
      unfold putOw
      rw [ht]
    rw [hp]
    have hm0 : Own e1 σ a0 := ⟨i, t, ht, htm, hs⟩
    have le : ∀ b, Own (e1.set i (some (t.put ds'))) σ b → Own e1 σ b := fun b ⟨j, u, hj, m, hb⟩ => by
      rcases get_set hj with ⟨h1, h2⟩ | ⟨h1, h2⟩
      · subst h1
        rw [hs] at hb
        cases hb
        exact hm0
      · exact ⟨j, u, h2, m, hb⟩
    have own0 : Own (slots (.io ds' :: r')) ((V.ref a0 :: ps).map some) a0 := ⟨0, Sl.io ds', slots_get.mpr (by simp), rfl, vals_get.mpr (by simp)⟩
    have sub : ∀ a, Al O0 (e1.set i (some (t.put ds'))) σ a → Al (Oth O0 e1 σ (.io ds) (.ref a0)) (slots (.io ds' :: r')) ((V.ref a0 :: ps).map some) a := fun a z => by
      by_cases h : a = a0
      · subst h
        exact .inr own0
      · exact .inl ⟨z.elim .inl fun z => .inr (le a z), fun z => h (V.ref.inj z.2).symm⟩
    have keep' : ∀ a o, H1 a = some o → a ≠ a0 → H' a = some o := fun a o h n => keep a o h fun z => n (V.ref.inj z.2).symm
    have main : ∀ O1 : Addr → Prop, (∀ a, O1 a → O0 a ∨ H1 a = none) → (∀ a, O1 a → ∃ xs, H' a = some (.lst xs)) → (∃ qs, H' a0 = some (.lst qs) ∧ Rps K (Al O1 (e1.set i (some (t.put ds'))) σ) H' ds' qs) → Ok K O1 (e1.set i (some (t.put ds'))) σ H' := fun O1 ho1 hl1 h0 => by
      have g : Goes K (Al O0 e1 σ) H1 (Al O1 (e1.set i (some (t.put ds'))) σ) H' :=
        ⟨fun c xs h n => ⟨keep' c _ h fun z => n (.inr (by rw [z]; exact hm0)), fun z => z.elim (fun z => (ho1 c z).elim (fun z => n (.inl z)) fun z => by rw [h] at z; cases z) fun z => n (.inr (le c z))⟩,
         fun c xs h => SqT.keep ok (fun a o h n => keep' a o h fun z => n (by rw [z]; exact hm0)) h⟩
      refine ⟨by rw [List.length_set]; exact ok.len, fun j u hj => ?_, fun j l u w b hj mu hl mw hs1 hs2 => ?_, hl1, fun b h z => ?_⟩
      · rcases get_set hj with ⟨h1, h2⟩ | ⟨h1, h2⟩
        · subst h1
          cases h2
          refine ⟨_, hs, ?_⟩
          obtain ⟨qs, f1, f2⟩ := h0
          cases t with
          | pv d => cases htm
          | sc ns => cases htm
          | ow es => exact ⟨a0, qs, rfl, f1, f2⟩
          | io es => exact ⟨a0, qs, rfl, f1, f2⟩
        · obtain ⟨v, ev, rv⟩ := ok.val j u h2
          refine ⟨v, ev, ?_⟩
          cases u with
          | pv d => exact Rp.goes g _ _ rv
          | ow es =>
            obtain ⟨b, qs, f1, f2, f3⟩ := rv
            subst f1
            exact ⟨b, qs, rfl, keep' _ _ f2 fun z => h1 (ok.inj i j _ _ a0 ht htm h2 rfl hs (by rw [ev, z])), Rps.goes g _ _ f3⟩
          | io es =>
            obtain ⟨b, qs, f1, f2, f3⟩ := rv
            subst f1
            exact ⟨b, qs, rfl, keep' _ _ f2 fun z => h1 (ok.inj i j _ _ a0 ht htm h2 rfl hs (by rw [ev, z])), Rps.goes g _ _ f3⟩
          | sc ns =>
            obtain ⟨b, f1, f2⟩ := rv
            exact ⟨b, f1, f2.elim (fun ⟨o, h⟩ => .inl ⟨o, keep' _ _ h fun z => by rw [z, ha0] at h; cases h⟩) .inr⟩
      · rcases get_set hj with ⟨h1, h2⟩ | ⟨h1, h2⟩
        · rcases get_set hl with ⟨h3, h4⟩ | ⟨h3, h4⟩
          · exact h1.symm.trans h3
          · subst h1
            exact ok.inj i l t w b ht htm h4 mw hs1 hs2
        · rcases get_set hl with ⟨h3, h4⟩ | ⟨h3, h4⟩
          · subst h3
            exact ok.inj j i u t b h2 mu ht htm hs1 hs2
          · exact ok.inj j l u w b h2 mu h4 mw hs1 hs2
      · rcases ho1 b z with z | z
        · exact ok.dis b (le b h) z
        · obtain ⟨xs, e⟩ := ok.own (le b h)
          rw [e] at z
          cases z
    have cont : ∀ (O2 : Addr → Prop), Ok K O2 (slots (.io ds' :: r')) ((V.ref a0 :: ps).map some) H' → ∃ qs, H' a0 = some (.lst qs) ∧ Rps K (Al O2 (slots (.io ds' :: r')) ((V.ref a0 :: ps).map some)) H' ds' qs := fun O2 ok2 => by
      obtain ⟨v, h1, a, qs, h2, h3, h4⟩ := ok2.val 0 (.io ds') (slots_get.mpr (by simp))
      have h1' := vals_get.mp h1
      simp at h1'
      subst h1'
      cases h2
      exact ⟨qs, h3, h4⟩
    refine ⟨⟨main O0 (fun a z => .inl z) (fun a z => ?_) ?_, fun a o h n => keep' a o h fun z => n (by rw [z]; exact hm0), st.dom, le, fun j es e => ?_⟩, sub, fun b hb okb => main _ (fun a z => z.elim .inl fun z => .inr (by rw [z]; exact hb)) (fun a z => ?_) ?_⟩
    · obtain ⟨xs, e⟩ := ok.lst a z
      exact ⟨xs, keep' _ _ e fun y => ok.dis a (by rw [y]; exact hm0) z⟩
    · obtain ⟨qs, f1, f2⟩ := cont _ st.ok
      exact ⟨qs, f1, Rps.goes (Goes.shrink sub) _ _ f2⟩
    · by_cases hij : i = j
      · subst hij
        rw [ht] at e
        cases e
        exact ⟨ds', by rw [List.getElem?_set_self (List.getElem?_eq_some_iff.mp ht).1]; rfl⟩
      · exact ⟨es, by rw [List.getElem?_set_ne hij]; exact e⟩
    · rcases z with z | z
      · obtain ⟨xs, e⟩ := ok.lst a z
        exact ⟨xs, keep' _ _ e fun y => ok.dis a (by rw [y]; exact hm0) z⟩
      · exact okb.lst a (.inr z)
    · obtain ⟨qs, f1, f2⟩ := cont _ okb
      refine ⟨qs, f1, Rps.goes (Goes.shrink fun a z => ?_) _ _ f2⟩
      rcases z with (z | z) | z
      · exact (sub a (.inl z)).elim (fun z => .inl (.inl z)) .inr
      · exact .inl (.inr z)
      · exact (sub a (.inr z)).elim (fun z => .inl (.inl z)) .inr
end

/-- a def that may be called, by at most k calls one in another -/
structure Cal (P : Program) (w : World) (K : PySem.W.Frag) (mg : Str → Option Value) (base : Heap) (k : Nat) (x : Str) (n : Nat) (F : Fn) : Prop where
  ex : ∃ (f : Addr) (fd : FuncData) (ps : List Str), FnOk P w K mg base (L2.CX P w) k f fd ps (spOf K mg n F) ∧ mg x = some (.ref f) ∧ PySem.W.keepIn K (.ref f) = true ∧ L2.Binds K fd ps []
theorem Cal.mono {P : Program} {w : World} {K : PySem.W.Frag} {mg : Str → Option Value} {base : Heap} {j k : Nat} {x : Str} {n : Nat} {F : Fn} (c : Cal P w K mg base j x n F) (h : j ≤ k) : Cal P w K mg base k x n F :=
  let ⟨f, fd, ps, h1, h2⟩ := c.ex
  ⟨f, fd, ps, h1.mono h, h2⟩
section
variable {X : Cx} {W : WX} {k j n : Nat} {e : Expr} {es : List Expr} {ds : List D} {pos p px : Pos} {x y : Str} {F : Fn}
theorem call_pure {O0 : Addr → Prop} {env : En} {σ : L2.St} {H : Hp} {Q : VK} (hn : ds.length = n) (ok : Ok X.K O0 env σ H)
    (q : EndE (Cx.pm X W O0) env σ H (fun v env' H' => ∀ p, Rp X.K (Al O0 env' σ) H' v p → Q p H') (dCall F ds env)) : tCallS (spOf X.K X.mg n F) (WE W) (tA (Cx.pm X W O0) (dArgs ds)) σ H Q := by
  refine ⟨env, ok, args_end (f := fun vs e1 => Out.call (F (vs.map .pv)) fun _ => e1) q fun vs e1 H1 hv s1 q1 ps rps => ?_⟩
  refine ⟨Al O0 e1 σ, vs.map .pv, by rw [List.length_map]; omega, by simp [Sl.arg], ok_pure s1.ok rps, ?_⟩
  cases hF : F (vs.map .pv) with
  | val v as' => rw [hF] at q1; exact fun H' p st r => q1 H' (pure_step s1.ok st) p (Rp.goes (Goes.shrink fun a z => .inl z) _ _ r)
  | fresh ds' as' => rw [hF] at q1; exact fun H' a qs st fr => q1 H' (pure_step s1.ok st) _ (by
      have := fr.rp (fun z => by obtain ⟨xs, e⟩ := s1.ok.al z; rw [fr.new] at e; cases e)
      exact Rp.goes (Goes.shrink fun a z => .inl z) _ _ this)
  | ex c fs as' =>
    rw [hF] at q1
    refine fun H' cls d st xr => q1 H' cls d (pure_step s1.ok st) ?_
    obtain ⟨C, dd, qs, h1, h2, h3, h4, h5⟩ := xr
    exact ⟨C, dd, qs, h1, h2, h3, h4, Paired.mapP h5 fun f p z => ⟨z.1, Rp.goes (Goes.shrink fun a z => .inl z) _ _ z.2⟩⟩
  | stuck => rw [hF] at q1; exact q1.elim
theorem de_call (G : Gd X W k) (c : Cal X.prog X.w X.K X.mg X.base j x n F) (hj : j ≤ k) (ha : DAs X W (e :: es) (dArgs ds)) (hn : ds.length = n := by rfl) (hg : Gl X x := by rfl) (hdb : (x == ("__debug__" : Str)) = false := by decide) (he : starEach (e :: es) X.env = (false, eval e X.env) :: starEach es X.env := by rfl) (hpl : (backTo pos (starEach es X.env)).any (·.1) = false := by rfl) :
    DE X W (.Call (.Name x p) (e :: es) [] pos) (dCall F ds) := fun O0 => by
  obtain ⟨f, fd, ps, hf, hm, hk, hb⟩ := c.ex
  exact PE.imp (pe_callS (hf.mono hj) G.room hg hm hk hb (fun σ => passAt G.takes σ) (ha O0) hdb he hpl) fun σ H Q ⟨env, ok, q⟩ => call_pure hn ok q
theorem df_call (G : Gd X W k) (c : Cal X.prog X.w X.K X.mg X.base j x n F) (hj : j ≤ k) (ha : DAs X W (e :: es) (dArgs ds)) (hn : ds.length = n := by rfl) (hg : Gl X x := by rfl) (hdb : (x == ("__debug__" : Str)) = false := by decide) (he : starEach (e :: es) X.env = (false, eval e X.env) :: starEach es X.env := by rfl) (hpl : (backTo pos (starEach es X.env)).any (·.1) = false := by rfl) :
    DF X W (.Call (.Name x p) (e :: es) [] pos) (fCall F ds) := fun O0 => by
  obtain ⟨f, fd, ps, hf, hm, hk, hb⟩ := c.ex
  refine PE.imp (pe_callS (hf.mono hj) G.room hg hm hk hb (fun σ => passAt G.takes σ) (ha O0) hdb he hpl) fun σ H Q ⟨env, ok, q⟩ => ?_
  refine ⟨env, ok, ?_⟩
  unfold fCall at q
  cases hd : dArgs ds env with
  | ex c fs e1 => rw [hd] at q; exact q
  | stuck => rw [hd] at q; exact q
  | ok pr =>
    obtain ⟨vs, e1⟩ := pr
    rw [hd] at q
    intro H1 s1 ps rps
    have hv := dArgs_len _ _ _ _ hd
    refine ⟨Al O0 e1 σ, vs.map .pv, by rw [List.length_map]; omega, by simp [Sl.arg], ok_pure s1.ok rps, ?_⟩
    cases hF : F (vs.map .pv) with
    | val v as' => simp only [hF, Out.bind_ok, Out.callF] at q; exact (show False from q).elim
    | fresh ds' as' =>
      simp only [hF, Out.bind_ok, Out.callF] at q
      refine fun H' a qs st fr => q H' (s1.trans (pure_step s1.ok st)) a qs ⟨s1.no fr.new, ?_, fr.at', Rps.goes (Goes.shrink fun b z => z.elim (fun z => .inl (z.elim (fun z => .inl (.inl z)) .inr)) fun z => .inl (.inl (.inr z))) _ _ fr.rps⟩
      have keep : ∀ b o, H1 b = some o → H' b = some o := fun b o h => st.keep b o h pv_own
      refine s1.ok.goes ⟨fun c xs h n => ⟨keep _ _ h, fun z => z.elim (fun z => z.elim (fun z => n (.inl z)) fun z => by rw [z, fr.new] at h; cases h) fun z => n (.inr z)⟩, fun c xs h => SqT.keep s1.ok (fun a o h _ => keep a o h) h⟩ (fun _ _ _ h => keep _ _ h) (fun a ns h => h.elim (fun ⟨o, h⟩ => .inl ⟨o, keep _ _ h⟩) .inr) (fun b z => z.elim (fun z => by
        obtain ⟨xs, e⟩ := s1.ok.lst b z
        exact ⟨xs, keep _ _ e⟩) fun z => ⟨qs, by rw [z]; exact fr.at'⟩) fun b h z => z.elim (s1.ok.dis b h) fun z => by
          obtain ⟨xs, e⟩ := s1.ok.own h
          rw [z, fr.new] at e
          cases e
    | ex c fs as' =>
      simp only [hF, Out.bind_ok, Out.callF] at q
      refine fun H' cls d st xr => q H' cls d (s1.trans (pure_step s1.ok st)) ?_
      obtain ⟨C, dd, qs, h1, h2, h3, h4, h5⟩ := xr
      exact ⟨C, dd, qs, h1, h2, h3, h4, Paired.mapP h5 fun f p z => ⟨z.1, Rp.goes (Goes.shrink fun a z => .inl z) _ _ z.2⟩⟩
    | stuck => simp only [hF, Out.bind_ok, Out.callF] at q; exact (show False from q).elim
/-- f(x, ..), x a slot's own list that f may change, or the script -/
theorem de_callR {i : Nat} (G : Gd X W k) (c : Cal X.prog X.w X.K X.mg X.base j x (n + 1) F) (hj : j ≤ k) (hx : PE X (.Name y px) (tVar i)) (ha : DAs X W es (dArgs ds)) (hn : ds.length = n := by rfl) (hg : Gl X x := by rfl) (hdb : (x == ("__debug__" : Str)) = false := by decide) (he : starEach (.Name y px :: es) X.env = (false, eval (.Name y px) X.env) :: starEach es X.env := by rfl) (hpl : (backTo pos (starEach es X.env)).any (·.1) = false := by rfl) :
    DE X W (.Call (.Name x p) (.Name y px :: es) [] pos) (dCallS F i ds) := fun O0 => by
  obtain ⟨f, fd, ps, hf, hm, hk, hb⟩ := c.ex
  refine PE.imp (pe_callS (hf.mono hj) G.room hg hm hk hb (fun σ => passAt G.takes σ) (pa_cons hx (ha O0) he) hdb he hpl) fun σ H Q ⟨env, ok, q⟩ => ?_
  obtain ⟨s0, hs0, q⟩ := EndE.of q
  obtain ⟨p0, t0, h1, _⟩ := refAt_ok ok hs0
  refine ⟨p0, h1, env, ok, args_end (f := fun vs e1 => (Out.of (refAt e1 i)).bind fun s => Out.call (F (s :: vs.map .pv)) fun as => putRef e1 i s as) q fun vs e1 H1 hv s1 q1 ps rps => ?_⟩
  obtain ⟨s, hs, q1⟩ := EndE.of q1
  obtain ⟨p1, t, f1, f2, f3, f4, f5, _⟩ := refAt_ok s1.ok hs
  rw [h1] at f1
  cases f1
  refine ⟨Oth O0 e1 σ s p0, s :: vs.map .pv, by rw [List.length_cons, List.length_map]; omega, all_arg f4, ok_ref s1.ok h1 f2 f3 f5 rps, ?_⟩
  cases hF : F (s :: vs.map .pv) with
  | val v as' =>
    rw [hF] at q1
    refine fun H' p st r => ?_
    obtain ⟨g1, g2, _⟩ := ref_step s1.ok hs h1 f2 f3 st
    exact q1 H' g1 p (Rp.goes (Goes.shrink g2) _ _ r)
  | fresh ds' as' =>
    rw [hF] at q1
    refine fun H' a qs st fr => ?_
    obtain ⟨g1, g2, _⟩ := ref_step s1.ok hs h1 f2 f3 st
    exact q1 H' g1 _ (Rp.goes (Goes.shrink g2) _ _ (fr.rp (fun z => by obtain ⟨xs, e⟩ := s1.ok.al z.1; rw [fr.new] at e; cases e)))
  | ex c fs as' =>
    rw [hF] at q1
    refine fun H' cls d st xr => ?_
    obtain ⟨g1, g2, _⟩ := ref_step s1.ok hs h1 f2 f3 st
    refine q1 H' cls d g1 ?_
    obtain ⟨C, dd, qs, h1, h2, h3, h4, h5⟩ := xr
    exact ⟨C, dd, qs, h1, h2, h3, h4, Paired.mapP h5 fun f p z => ⟨z.1, Rp.goes (Goes.shrink g2) _ _ z.2⟩⟩
  | stuck => rw [hF] at q1; exact q1.elim
theorem df_callR {i : Nat} (G : Gd X W k) (c : Cal X.prog X.w X.K X.mg X.base j x (n + 1) F) (hj : j ≤ k) (hx : PE X (.Name y px) (tVar i)) (ha : DAs X W es (dArgs ds)) (hn : ds.length = n := by rfl) (hg : Gl X x := by rfl) (hdb : (x == ("__debug__" : Str)) = false := by decide) (he : starEach (.Name y px :: es) X.env = (false, eval (.Name y px) X.env) :: starEach es X.env := by rfl) (hpl : (backTo pos (starEach es X.env)).any (·.1) = false := by rfl) :
    DF X W (.Call (.Name x p) (.Name y px :: es) [] pos) (fCallS F i ds) := fun O0 => by
  obtain ⟨f, fd, ps, hf, hm, hk, hb⟩ := c.ex
  refine PE.imp (pe_callS (hf.mono hj) G.room hg hm hk hb (fun σ => passAt G.takes σ) (pa_cons hx (ha O0) he) hdb he hpl) fun σ H Q ⟨env, ok, q⟩ => ?_
  obtain ⟨s0, hs0, q⟩ := EndE.of q
  obtain ⟨p0, t0, h1, _⟩ := refAt_ok ok hs0
  refine ⟨p0, h1, env, ok, ?_⟩
  cases hd : dArgs ds env with
  | ex c fs e1 => rw [hd] at q; exact q
  | stuck => rw [hd] at q; exact q
  | ok pr =>
    obtain ⟨vs, e1⟩ := pr
    rw [hd] at q
    intro H1 s1 ps rps
    have hv := dArgs_len _ _ _ _ hd
    obtain ⟨s, hs, q1⟩ := EndE.of (show EndE _ _ _ _ _ ((Out.of (refAt e1 i)).bind _) from q)
    obtain ⟨p1, t, f1, f2, f3, f4, f5, _⟩ := refAt_ok s1.ok hs
    rw [h1] at f1
    cases f1
    refine ⟨Oth O0 e1 σ s p0, s :: vs.map .pv, by rw [List.length_cons, List.length_map]; omega, all_arg f4, ok_ref s1.ok h1 f2 f3 f5 rps, ?_⟩
    cases hF : F (s :: vs.map .pv) with
    | val v as' => rw [hF] at q1; exact q1.elim
    | fresh ds' as' =>
      rw [hF] at q1
      refine fun H' a qs st fr => ?_
      obtain ⟨g1, g2, g3⟩ := ref_step s1.ok hs h1 f2 f3 st
      refine q1 H' (s1.trans g1) a qs ⟨s1.no fr.new, g3 a fr.new fr.ok, fr.at', Rps.goes (Goes.shrink fun b z => ?_) _ _ fr.rps⟩
      rcases z with (z | z) | z
      · exact (g2 b (.inl z)).elim (fun z => .inl (.inl z)) .inr
      · exact .inl (.inr z)
      · exact (g2 b (.inr z)).elim (fun z => .inl (.inl z)) .inr
    | ex c fs as' =>
      rw [hF] at q1
      refine fun H' cls d st xr => ?_
      obtain ⟨g1, g2, _⟩ := ref_step s1.ok hs h1 f2 f3 st
      refine q1 H' cls d (s1.trans g1) ?_
      obtain ⟨C, dd, qs, h1, h2, h3, h4, h5⟩ := xr
      exact ⟨C, dd, qs, h1, h2, h3, h4, Paired.mapP h5 fun f p z => ⟨z.1, Rp.goes (Goes.shrink g2) _ _ z.2⟩⟩
    | stuck => rw [hF] at q1; exact q1.elim
end
end TL

/-! TL11: errors of one's own: made, raised, caught. -/
namespace TL
open PySem PySem.Spec PyProof.Rows L2

/-- what __init__ of an error class does: the one field is set -/
def spInit (K : PySem.W.Frag) (attr : Str) : Sp := fun vs H Q _ => ∃ (a C : Addr) (y : V), vs = [.ref a, y] ∧ H a = some (exo a C none) ∧ OexC K C ∧ PySem.W.findIn K (.ref C) attr = some none ∧
  ∀ dx, H dx = none → dx ≠ a → Q .non (upd (upd H dx (exd dx [(attr, y)])) a (exo a C (some dx)))
/-- an error class of the text's own -/
structure EclA (P : Program) (w : World) (K : PySem.W.Frag) (mg : Str → Option Value) (base : Heap) (c attr : Str) (C : Addr) : Prop where
  gC : mg c = some (.ref C)
  ox : OexC K C
  xf : XfC K C
  no : PySem.W.findIn K (.ref C) attr = some none
  ini : ∃ (fI : Addr) (fd : FuncData) (ps : List Str), PySem.W.findIn K (.ref C) "__init__" = some (some (.ref fI)) ∧ PySem.W.typeIn K (.ref fI) = some (.type "function") ∧ FnOk P w K mg base (L2.CX P w) 1 fI fd ps (spInit K attr) ∧ L2.Binds K fd ps []
def Ecl (P : Program) (w : World) (K : PySem.W.Frag) (mg : Str → Option Value) (base : Heap) (c attr : Str) : Prop := ∃ C, EclA P w K mg base c attr C

def dRaise (c attr : Str) (d : D) : DS := fun env => (d env).goS fun v e1 => .ex c [(attr, v)] e1
section
variable {X : Cx} {W : WX} {k : Nat} {e a b : Expr} {d da db : D} {pos p pos2 p' : Pos} {x attr : Str}
theorem ds_raise (G : Gd X W k) (h2 : 2 ≤ k) (c : Ecl X.prog X.w X.K X.mg X.base x attr) (he : DE X W e d) (hg : Gl X x := by rfl) (hdb : (x == ("__debug__" : Str)) = false := by decide) (hs : starEach [e] X.env = (false, eval e X.env) :: starEach [] X.env := by rfl) (hpl : (backTo pos (starEach [] X.env)).any (·.1) = false := by rfl) :
    DSt X W (.Raise (some (.Call (.Name x p) [e] [] pos)) none pos2) (dRaise x attr d) := fun O0 => by
  obtain ⟨C, c⟩ := c
  obtain ⟨fI, fd, ps, h3, h4, h5, h6⟩ := c.ini
  refine PS.imp (ps_raise G.calm G.takes (pmk_oex c.ox h3 h4 h5 (G.room.mono h2) h6 .nil passL hg c.gC (pa_cons (he O0) pa_nil hs) hdb hs hpl)) fun Dn σ H ⟨env, ok, q⟩ => ?_
  refine ⟨env, ok, EndE.goS q fun v e1 H1 s1 q1 y rp => ⟨by simp, fun a na => ⟨a, C, y, by simp, upd_same, c.ox, c.no, fun dx nd ne => ?_⟩⟩⟩
  have nd1 : H1 dx = none := by
    rw [upd_ne ne] at nd
    exact nd
  refine ⟨rfl, dx, [(attr, y)], upd_same, by rw [upd_ne ne, upd_same], nd1, ?_⟩
  have eh : upd (del (upd (upd (upd H1 a (exo a C none)) dx (exd dx [(attr, y)])) a (exo a C (some dx))) a) dx (.xd [(attr, y)]) = upd H1 dx (.xd [(attr, y)]) := by
    funext b
    by_cases hb : b = dx
    · subst hb
      rw [upd_same, upd_same]
    · rw [upd_ne hb, upd_ne hb]
      by_cases hba : b = a
      · subst hba
        rw [del_same, na]
      · rw [del_ne hba, upd_ne hba, upd_ne hb, upd_ne hba]
  rw [eh]
  have st := StpE.new (o := .xd [(attr, y)]) s1.ok nd1
  exact q1 σ _ _ _ st.step ⟨C, dx, _, c.gC, rfl, rfl, upd_same, .cons ⟨rfl, st.step.rp s1.ok rp⟩ .nil⟩

/-! ### the suite of an except clause: what it may say -/
theorem XRep.step {mg : Str → Option Value} {K : PySem.W.Frag} {O0 : Addr → Prop} {env env' : En} {σ σ' : L2.St} {H H' : Hp} {c : Str} {fs : List (Str × PyData)} {cls : Value} {d : Option Addr} (ok : Ok K O0 env σ H) (s : Stp K O0 env σ H env' σ' H') (x : XRep mg K (Al O0 env σ) H c fs cls d) : XRep mg K (Al O0 env' σ') H' c fs cls d := by
  obtain ⟨C, dd, ps, h1, h2, h3, h4, h5⟩ := x
  have nw : ¬ Own env σ dd := fun z => by
    obtain ⟨xs, e⟩ := ok.own z
    rw [h4] at e
    cases e
  exact ⟨C, dd, ps, h1, h2, h3, s.keep dd _ h4 nw, Paired.mapP h5 fun f p z => ⟨z.1, s.rp ok z.2⟩⟩
/-- an expression in a suite: f tells it by the error that is held -/
abbrev DX := Str → List (Str × PyData) → D
abbrev WF : WX := fun _ _ _ _ => False
structure Hd where
  a : Addr
  cls : Value
  d : Option Addr
  i : Nat
def tX (Y : Pm) (h : Hd) (f : DX) : TE := fun σ H Q => ∃ env c fs, Ok Y.K Y.O0 env σ H ∧ XRep Y.mg Y.K (Al Y.O0 env σ) H c fs h.cls h.d ∧ σ[h.i]? = some (some (.ref h.a)) ∧ EndE Y env σ H (fun v env' H' => ∀ p, Rp Y.K (Al Y.O0 env' σ) H' v p → Q p H') (f c fs env)
def tXA (Y : Pm) (h : Hd) (f : Str → List (Str × PyData) → List D) : TA := fun σ H Q => ∃ env c fs, Ok Y.K Y.O0 env σ H ∧ XRep Y.mg Y.K (Al Y.O0 env σ) H c fs h.cls h.d ∧ σ[h.i]? = some (some (.ref h.a)) ∧ EndE Y env σ H (fun vs env' H' => ∀ p, Rps Y.K (Al Y.O0 env' σ) H' vs p → Q p H') (dArgs (f c fs) env)
def XE' (X : Cx) (h : Hd) (x : Expr) (f : DX) : Prop := ∀ O0, PE X x (tX (Cx.pm X WF O0) h f)
def XAs (X : Cx) (h : Hd) (xs : List Expr) (f : Str → List (Str × PyData) → List D) : Prop := ∀ O0, PA X xs (tXA (Cx.pm X WF O0) h f)
variable {h : Hd}
theorem xe_of (hd : DE X WF e d) : XE' X h e (fun _ _ => d) := fun O0 => PE.imp (hd O0) fun σ H Q ⟨env, c, fs, ok, x, hi, q⟩ => ⟨env, ok, q⟩
theorem xas_nil : XAs X h [] (fun _ _ => []) := fun O0 => PA.imp pa_nil fun σ H Q ⟨env, c, fs, ok, x, hi, q⟩ => q H (StpE.refl ok) [] .nil
theorem xas_cons {es : List Expr} {f : DX} {r : Str → List (Str × PyData) → List D} (h1 : XE' X h e f) (h2 : XAs X h es r) (hs : starEach (e :: es) X.env = (false, eval e X.env) :: starEach es X.env := by rfl) : XAs X h (e :: es) (fun c fs => f c fs :: r c fs) := fun O0 =>
  PA.imp (pa_cons (h1 O0) (h2 O0) hs) fun σ H Q ⟨env, c, fs, ok, x, hi, q⟩ => ⟨env, c, fs, ok, x, hi, EndE.bind q fun v e1 H1 s1 q1 p rp => ⟨e1, c, fs, s1.ok, x.step ok s1.step, hi, EndE.bind q1 fun vs e2 H2 s2 q2 ps rps => q2 H2 (StpE.refl s2.ok) (p :: ps) (.cons (s2.step.rp s1.ok rp) rps)⟩⟩
theorem xe_tup {es : List Expr} {f : Str → List (Str × PyData) → List D} {x1 : Nat} {n : Nat} (hx : XAs X h es f) (hn : ∀ c fs, (f c fs).length = n := by intros; rfl) (hl : n ≤ 1000 := by decide) : XE' X h (.Tuple es x1 pos) (fun c fs => dTup (f c fs)) := fun O0 =>
  PE.imp (pe_tup (hx O0)) fun σ H Q ⟨env, c, fs, ok, x, hi, q⟩ => ⟨env, c, fs, ok, x, hi, args_end (f := fun vs e1 => .ok (.tuple vs, e1)) q fun vs e1 H1 hv s1 q1 ps rps =>
    ⟨by rw [← rps.length, hv, hn]; exact Nat.le_of_lt (small1000 hl), fun p hp => q1 _ (StpE.new s1.ok hp) _ (Rp.newT hp rps)⟩⟩
theorem xe_lst {es : List Expr} {f : Str → List (Str × PyData) → List D} {n : Nat} (hx : XAs X h es f) (hn : ∀ c fs, (f c fs).length = n := by intros; rfl) (hl : n ≤ 1000 := by decide) : XE' X h (.List es pos) (fun c fs => dLst (f c fs)) := fun O0 =>
  PE.imp (pe_lst (hx O0)) fun σ H Q ⟨env, c, fs, ok, x, hi, q⟩ => ⟨env, c, fs, ok, x, hi, args_end (f := fun vs e1 => .ok (.list vs, e1)) q fun vs e1 H1 hv s1 q1 ps rps =>
    ⟨by rw [← rps.length, hv, hn]; exact Nat.le_of_lt (small1000 hl), fun p hp => q1 _ (StpE.new s1.ok hp) _ (Rp.newL s1.ok hp rps)⟩⟩
/-- e.told -/
def xTold (known : Str → Bool) (attr : Str) : DX := fun c fs env => if known c = true then (Out.of (fs.lookup attr)).bind fun v => .ok (v, env) else .stuck
theorem lookup_rep {K : PySem.W.Frag} {O : Addr → Prop} {H : Hp} {attr : Str} {v : PyData} : ∀ {fs : List (Str × PyData)} {ps : List (Str × V)}, Paired (fun (f : Str × PyData) (p : Str × V) => f.1 = p.1 ∧ Rp K O H f.2 p.2) fs ps → fs.lookup attr = some v → ∃ y, ps.lookup attr = some y ∧ Rp K O H v y
  | _, _, .nil, e => by cases e
  | (f, u) :: fs, (g, y) :: ps, .cons ⟨h1, h2⟩ r, e => by
    simp only [List.lookup] at e ⊢
    have h1' : f = g := h1
    subst h1'
    cases hf : attr == f with
    | true =>
      rw [hf] at e
      cases e
      exact ⟨y, rfl, h2⟩
    | false =>
      rw [hf] at e
      exact lookup_rep r e
theorem xe_told {W : WX} {k : Nat} (h : Hd) {oe : Obj} {pn : List (Addr × Obj)} {known : Str → Bool} (G : Gd X W k) (hk : ∀ c, known c = true → Ecl X.prog X.w X.K X.mg X.base c attr) (hz : Zc h.cls h.d oe) (hf : ∃ vs, oe.data = .fields vs) (he : PE (Cx.suite X h.a ((h.a, oe) :: pn)) e (tVar h.i)) (hb : attributeBase e attr X.env (eval e X.env) = eval e X.env := by rfl) :
    XE' (Cx.suite X h.a ((h.a, oe) :: pn)) h (.Attribute e attr pos) (xTold known attr) := fun O0 => ⟨fun pins s σ H Q I ⟨env, c, fs, ok, x, hi, q⟩ => by
  unfold xTold at q
  split at q
  · rename_i hc
    obtain ⟨v, hv, q⟩ := EndE.of q
    obtain ⟨C, dd, ps, h1, h2, h3, h4, h5⟩ := x
    obtain ⟨C', E⟩ := hk c hc
    have : C' = C := by
      have := E.gC.symm.trans h1
      cases this
      rfl
    subst this
    obtain ⟨y, hy, ry⟩ := lookup_rep h5 hv
    exact (pe_xf E.xf E.no hz hf he hb).run pins s σ H Q I ⟨_, hi, rfl, h2, dd, ps, y, h3, h4, hy, q H (StpE.refl ok) y ry⟩
  · exact q.elim⟩
/-- isinstance(e, C), where it is so -/
def xIs (known : Str → Bool) : DX := fun c _ env => if known c = true then .ok (.bool true, env) else .stuck
theorem call_isT {X : Cx} {a D C : Addr} {d : Option Addr} {oe : Obj} {pn : List (Addr × Obj)} (hz : Zc (.ref D) d oe) (hf : ∃ vs, oe.data = .fields vs) (hi : PySem.W.isIn X.K (.ref D) C = true) :
    CallR (X.suite a ((a, oe) :: pn)) (.builtin "isinstance") (fun xs H Q => xs = [.ref a, .ref C] ∧ (∀ dd, d = some dd → ∃ ps, H dd = some (.xd ps)) ∧ Q (.bl true) H) := by
  intro pins s σ H xs us Q I r ⟨e, hd, q⟩
  subst e
  obtain ⟨u1, u2, rfl, r1, r2⟩ := vals2 r
  cases r1
  cases r2
  obtain ⟨hget, _⟩ := I.pin (a, oe) (List.mem_append.mpr (.inl List.mem_cons_self))
  obtain ⟨vs, hv⟩ := hf
  have J : ∃ od, PySem.W.InstAt s.heap a oe D od := by
    cases hdd : d with
    | none => exact ⟨none, hget, hz.1, by unfold PySem.W.notCls; rw [hv] <;> rfl, by rw [hz.2, hdd]; trivial⟩
    | some dd =>
      obtain ⟨ps, hp⟩ := hd dd hdd
      obtain ⟨mA, hns, _⟩ := (show ObjOk X.prog X.w H s.heap dd (.xd ps) from I.hok dd _ hp)
      obtain ⟨od, ho, _⟩ := lookIn_ns hns
      exact ⟨some od, hget, hz.1, by unfold PySem.W.notCls; rw [hv] <;> rfl, by rw [hz.2, hdd]; exact ho⟩
  obtain ⟨od, J⟩ := J
  refine PyProof.Rows.call_isinstance_of ?_ (fun z => nomatch z)
  exact PySem.W.isi_nested (Q := _) I.kIn J.type hi ⟨.bl true, H, I, rfl, q⟩
theorem xe_is {W : WX} {k : Nat} (h : Hd) {oe : Obj} {pn : List (Addr × Obj)} {known : Str → Bool} {C : Addr} {px : Pos} {y : Str} (G : Gd X W k) (hk : ∀ c D, known c = true → X.mg c = some (.ref D) → PySem.W.isIn X.K (.ref D) C = true) (hz : Zc h.cls h.d oe) (hf : ∃ vs, oe.data = .fields vs) (hmi : X.mg "isinstance" = none) (he : PE (Cx.suite X h.a ((h.a, oe) :: pn)) e (tVar h.i)) (hC : X.mg y = some (.ref C)) (hgy : Gl X y := by rfl) (hdy : (y == ("__debug__" : Str)) = false := by decide)
    (hg : Gl X "isinstance" := by rfl) (hs : starEach [e, .Name y px] X.env = (false, eval e X.env) :: starEach [.Name y px] X.env := by rfl) (hs2 : starEach [.Name y px] X.env = (false, eval (.Name y px) X.env) :: starEach [] X.env := by rfl) (hpl : (backTo pos (starEach [.Name y px] X.env)).any (·.1) = false := by rfl) :
    XE' (Cx.suite X h.a ((h.a, oe) :: pn)) h (.Call (.Name "isinstance" p) [e, .Name y px] [] pos) (xIs known) := fun O0 => ⟨fun pins s σ H Q I ⟨env, c, fs, ok, x, hi, q⟩ => by
  unfold xIs at q
  split at q
  · rename_i hc
    obtain ⟨D, dd, ps, h1, h2, h3, h4, h5⟩ := x
    have hz' : Zc (.ref D) h.d oe := by rw [← h2]; exact hz
    exact (pe_callB (X := Cx.suite X h.a ((h.a, oe) :: pn)) (call_isT hz' hf (hk c D hc h1)) hg hmi (by decide +kernel) (pa_cons he (pa_cons (pe_glob (v := .ref C) hgy hC rfl hdy) pa_nil hs2) hs) (by decide) (by decide) hs hpl).run pins s σ H Q I
      ⟨_, hi, rfl, fun d' hd' => ⟨ps, by rw [h3] at hd'; cases hd'; exact h4⟩, q H (StpE.refl ok) _ (.bl true)⟩
  · exact q.elim⟩
end
end TL

/-! TL12: try .. except C as n: one statement. -/
namespace TL
open PySem PySem.Spec PyProof.Rows L2

/-- a slot forgets -/
theorem Stp.drop {K : PySem.W.Frag} {O0 : Addr → Prop} {env : En} {σ : L2.St} {H : Hp} (ok : Ok K O0 env σ H) {i : Nat} {x : Option V} (hf : free? env i = true) : Stp K O0 env σ H (env.set i none) (σ.set i x) H := by
  have old : ∀ (j : Nat) (s : Sl), (env.set i none)[j]? = some (some s) → i ≠ j ∧ env[j]? = some (some s) := fun j s h => by
    rcases get_set h with ⟨h1, h2⟩ | h
    · cases h2
    · exact h
  have le : ∀ a, Own (env.set i none) (σ.set i x) a → Own env σ a := fun a ⟨j, s, h1, m, h2⟩ => by
    obtain ⟨ne, h⟩ := old j s h1
    rw [List.getElem?_set_ne ne] at h2
    exact ⟨j, s, h, m, h2⟩
  have sub : ∀ a, Al O0 (env.set i none) (σ.set i x) a → Al O0 env σ a := fun a z => z.elim .inl fun z => .inr (le a z)
  refine ⟨⟨by rw [List.length_set, List.length_set]; exact ok.len, fun j s h => ?_, fun j l s t a h1 m1 h2 m2 h3 h4 => ?_, ok.lst, fun a h => ok.dis a (le a h)⟩, fun _ _ h _ => h, fun _ h => h, fun a h => .inl (le a h), fun j ds h => ?_⟩
  · obtain ⟨ne, h⟩ := old j s h
    obtain ⟨v, ev, r⟩ := ok.val j s h
    exact ⟨v, by rw [List.getElem?_set_ne ne]; exact ev, RS.shrink sub r⟩
  · obtain ⟨n1, e1⟩ := old j s h1
    obtain ⟨n2, e2⟩ := old l t h2
    rw [List.getElem?_set_ne n1] at h3
    rw [List.getElem?_set_ne n2] at h4
    exact ok.inj j l s t a e1 m1 e2 m2 h3 h4
  · have ne : i ≠ j := fun z => free_io hf (z ▸ h)
    exact ⟨⟨ds, by rw [List.getElem?_set_ne ne]; exact h⟩, List.getElem?_set_ne ne⟩
abbrev DXS := Str → List (Str × PyData) → DS
def tXS (Y : Pm) (h : Hd) (f : DXS) : TS := fun Dn σ H => ∃ env c fs, Ok Y.K Y.O0 env σ H ∧ XRep Y.mg Y.K (Al Y.O0 env σ) H c fs h.cls h.d ∧ σ[h.i]? = some (some (.ref h.a)) ∧ EndS Y env σ H Dn (f c fs env)
def XSt (X : Cx) (h : Hd) (st : Stmt) (f : DXS) : Prop := ∀ O0, PS X st (tXS (Cx.pm X WF O0) h f)
section
variable {X : Cx} {W : WX} {k : Nat} {e a b : Expr} {d da db : D} {pos p pos2 p' : Pos} {x n : Str} {h : Hd}
theorem xs_ret {f : DX} (he : XE' X h e f) : XSt X h (.Return (some e) pos) (fun c fs => dRet (f c fs)) := fun O0 =>
  PS.imp (ps_ret (he O0)) fun Dn σ H ⟨env, c, fs, ok, x, hi, q⟩ => ⟨env, c, fs, ok, x, hi, EndE.goS q fun v e1 H1 s1 q1 p rp => q1 σ H1 p (Stp.refl s1.ok) rp⟩
theorem xs_set {f : DX} {i : Nat} {p' : Pos} (hN : X.N.Nodup) (hi : X.N[i]? = some x) (hx : Loc X.env.scope x) (he : XE' X h e f) (hs : swapsWith e (some (.Name x p')) pos.line X.env = pure false := by rfl) (hf : X.fn x = true ∨ X.env.scope.names.lookup x = some .local := by first | exact .inl rfl | exact .inr rfl | assumption) :
    XSt X h (.Assign [.Name x p'] e pos) (fun c fs => dAsg (f c fs) (gNm i)) := fun O0 =>
  PS.imp (ps_set hN hi hx (he O0) hs hf) fun Dn σ H ⟨env, c, fs, ok, x, hi, q⟩ => ⟨env, c, fs, ok, x, hi, EndE.goS q fun v e1 H1 s1 q1 p rp => by
    obtain ⟨e2, h2, q2⟩ := EndS.of q1
    obtain ⟨hfr, rfl⟩ := setPv_free h2
    exact q2 _ _ (Stp.setPv s1.ok hfr rp)⟩
theorem xs_of {st : Stmt} {ds : DS} (hd : DSt X WF st ds) : XSt X h st (fun _ _ => ds) := fun O0 => PS.imp (hd O0) fun Dn σ H ⟨env, c, fs, ok, x, hi, q⟩ => ⟨env, ok, q⟩

def clear (i : Nat) : OutS → OutS
  | .nx e => .nx (e.set i none)
  | .bk e => .bk (e.set i none)
  | .ct e => .ct (e.set i none)
  | .rt v e => .rt v e
  | _ => .stuck
def clearOk (i : Nat) : OutS → Bool
  | .nx e => free? e i
  | .bk e => free? e i
  | .ct e => free? e i
  | .rt _ _ => true
  | _ => false
def caught (i : Nat) (o : OutS) : OutS := if clearOk i o = true then clear i o else .stuck
def handle (catches : Str → Option Bool) (i : Nat) (su : DXS) (c : Str) (fs : List (Str × PyData)) (env : En) : OutS := match catches c with
  | some true => if free? env i = true then caught i (su c fs (env.set i none)) else .stuck
  | some false => .ex c fs env
  | none => .stuck
def dTry (catches : Str → Option Bool) (i : Nat) (body : DS) (su : DXS) : DS := fun env => match body env with
  | .ex c fs e1 => handle catches i su c fs e1
  | o => o
theorem caught_end {Y : Pm} {env : En} {σ : L2.St} {H : Hp} {Dn : Ends} {i : Nat} {o : OutS} (q : EndS Y env σ H Dn (caught i o)) :
    EndS ⟨Y.K, Y.mg, Y.O0, WF⟩ env σ H { nx := fun σ' H' => Dn.nx (σ'.set i none) H', rt := Dn.rt, bk := fun σ' H' => Dn.bk (σ'.set i none) H', ct := fun σ' H' => Dn.ct (σ'.set i none) H' } o := by
  unfold caught at q
  split at q
  · rename_i hc
    cases o with
    | nx e => exact fun σ' H' s => q _ _ (s.trans (Stp.drop s.ok hc))
    | bk e => exact fun σ' H' s => q _ _ (s.trans (Stp.drop s.ok hc))
    | ct e => exact fun σ' H' s => q _ _ (s.trans (Stp.drop s.ok hc))
    | rt v e => exact q
    | rl v e => cases hc
    | ex c fs e => cases hc
    | stuck => cases hc
  · exact q.elim
theorem ds_try {body : List Stmt} {st : Stmt} {i : Nat} {C : Addr} {catches : Str → Option Bool} {dbd : DS} {su : DXS} {np pos' : Pos} (G : Gd X W k) (hs : X.stack = X.env :: X.outer) (hf : X.env.frame = some X.env.locals) (hi : X.N[i]? = some n) (hln : X.env.kindOf n = some .local) (hC : X.mg x = some (.ref C))
    (hm : ∀ c b D, catches c = some b → X.mg c = some (.ref D) → PySem.W.exmOne X.K (.ref D) (.ref C) = some b)
    (hb : ∀ (W' : WX) (pn : List (Addr × Obj)) (xe : Value → Shared → Prop), Gd (Cx.tr X pn xe) W' k → DSs (Cx.tr X pn xe) W' body dbd)
    (hsu : ∀ (a : Addr) (oe : Obj) (cls : Value) (d : Option Addr) (pn : List (Addr × Obj)), Zc cls d oe → (∃ vs, oe.data = .fields vs) → XSt (Cx.suite X a ((a, oe) :: pn)) ⟨a, cls, d, i⟩ st su)
    (hgx : Gl X x := by rfl) (hdx : (x == ("__debug__" : Str)) = false := by decide) :
    DSt X W (.Try body [.ExceptHandler (some (.Name x np)) (some n) [st] pos'] [] [] pos) (dTry catches i dbd su) := fun O0 => by
  refine PS.imp (ps_try_as (tb := fun W' => tS ⟨X.K, X.mg, O0, W'⟩ dbd) (ts := fun a cls d => tXS ⟨X.K, X.mg, O0, WF⟩ ⟨a, cls, d, i⟩ su) hs hf G.nd hi hln ⟨hgx, hdx, .inl hC⟩ G.takes (fun W' pn xe tk ps => ?_) (fun a oe cls d pn hz hfv => pss_one (hsu a oe cls d pn hz hfv O0))) fun Dn σ H ⟨env, ok, q⟩ => ?_
  · exact hb W' pn xe ⟨G.calm, G.room, tk, ps, G.nd⟩ O0
  · refine ⟨env, ok, ?_⟩
    unfold dTry at q
    cases hbo : dbd env with
    | nx e => rw [hbo] at q; exact q
    | rt v e => rw [hbo] at q; exact q
    | rl v e => rw [hbo] at q; exact q
    | bk e => rw [hbo] at q; exact q
    | ct e => rw [hbo] at q; exact q
    | stuck => rw [hbo] at q; exact q
    | ex c fs e1 =>
      rw [hbo] at q
      replace q : EndS (Cx.pm X W O0) env σ H Dn (handle catches i su c fs e1) := q
      unfold handle at q
      refine fun σ' H' cls d s xr => ?_
      obtain ⟨D, dd, ps, h1, h2, h3, h4, h5⟩ := xr
      split at q
      · rename_i hc
        split at q
        · rename_i hfr
          refine ⟨true, by rw [h2]; exact hm c true D hc h1, fun _ a na => ?_, fun z => by cases z⟩
          have st := Stp.drop (x := some (.ref a)) s.ok hfr
          have hlen : i < σ'.length := by
            rw [← s.ok.len]
            unfold free? at hfr
            cases he : e1[i]? with
            | none => rw [he] at hfr; cases hfr
            | some z => exact (List.getElem?_eq_some_iff.mp he).1
          have q' := EndS.shift (Y := Cx.pm X W O0) (s.trans st) q
          exact ⟨e1.set i none, c, fs, st.ok, XRep.step s.ok st ⟨D, dd, ps, h1, h2, h3, h4, h5⟩, List.getElem?_set_self hlen, caught_end q'⟩
        · exact q.elim
      · rename_i hc
        exact ⟨false, by rw [h2]; exact hm c false D hc h1, fun z => (by cases z), fun _ => q σ' H' cls d s ⟨D, dd, ps, h1, h2, h3, h4, h5⟩⟩
      · exact q.elim
end
end TL

/-! TL13: keywords; the law's end. -/
namespace TL
open PySem PySem.Spec PyProof.Rows L2

/-! ### calls with keywords -/
def arr {α : Type} (np nk : Nat) (perm : List Nat) (z : α) (us ws : List α) : List α := if us.length = np ∧ ws.length = nk then perm.map fun j => (us ++ ws).getD j z else []
theorem kb_mk {K : PySem.W.Frag} {fd : FuncData} {ps ks : List Str} {np : Nat} {perm : List Nat} (h0 : 0 < ps.length) (hl : perm.length = ps.length)
    (h : ∀ (us ws : List Value), us.length = np → ws.length = ks.length → bindArgs fd ⟨us, ks.zip ws⟩ = pure (ps.zip (perm.map fun j => (us ++ ws).getD j .none))) :
    L2.KBinds K fd ps ks (arr np ks.length perm .none) (arr np ks.length perm .non) where
  to := fun s us ws _ hlen => by
    unfold arr at hlen ⊢
    split at hlen
    · rename_i hc
      rw [if_pos hc]
      exact .of_eq (h us ws hc.1 hc.2)
    · simp at hlen
      omega
  rel := fun {vs us zs ws} r1 r2 => by
    unfold arr
    rw [r1.length, r2.length]
    split
    · have r := r1.append r2
      have key : ∀ j : Nat, L2.RelV ((vs ++ zs).getD j .non) ((us ++ ws).getD j .none) := fun j => by
        by_cases hj : j < (vs ++ zs).length
        · obtain ⟨u, h1, h2⟩ := r.get (List.getElem?_eq_getElem hj)
          rw [List.getD_eq_getElem?_getD, List.getD_eq_getElem?_getD, h1, List.getElem?_eq_getElem hj]
          exact h2
        · have hj2 : ¬ j < (us ++ ws).length := by
            rw [← r.length]
            exact hj
          rw [List.getD_eq_getElem?_getD, List.getD_eq_getElem?_getD, List.getElem?_eq_none (by omega), List.getElem?_eq_none (by omega)]
          rfl
      clear h hl
      induction perm with
      | nil => exact .nil
      | cons j r ih => exact .cons (key j) ih
    · exact .nil
structure CalK (P : Program) (w : World) (K : PySem.W.Frag) (mg : Str → Option Value) (base : Heap) (k : Nat) (x : Str) (n np : Nat) (ks : List Str) (perm : List Nat) (F : Fn) : Prop where
  ex : ∃ (f : Addr) (fd : FuncData) (ps : List Str), FnOk P w K mg base (L2.CX P w) k f fd ps (spOf K mg n F) ∧ mg x = some (.ref f) ∧ PySem.W.keepIn K (.ref f) = true ∧ L2.KBinds K fd ps ks (arr np ks.length perm .none) (arr np ks.length perm .non)
theorem CalK.mono {P : Program} {w : World} {K : PySem.W.Frag} {mg : Str → Option Value} {base : Heap} {j k : Nat} {x : Str} {n np : Nat} {ks : List Str} {perm : List Nat} {F : Fn} (c : CalK P w K mg base j x n np ks perm F) (h : j ≤ k) : CalK P w K mg base k x n np ks perm F :=
  let ⟨f, fd, ps, h1, h2⟩ := c.ex
  ⟨f, fd, ps, h1.mono h, h2⟩
def DKs (X : Cx) (W : WX) (kws : List Keyword) (d : DA) : Prop := ∀ O0, PK X kws (tA (Cx.pm X W O0) d)
def perm' (perm : List Nat) (vs : List PyData) : List PyData := perm.map fun j => vs.getD j .none
def dCallP (F : Fn) (perm : List Nat) (ds : List D) : D := fun env => (dArgs ds env).bind fun (vs, e1) => Out.call (F ((perm' perm vs).map .pv)) fun _ => e1
theorem dArgs_app : ∀ (ds es : List D) (env : En), dArgs (ds ++ es) env = (dArgs ds env).bind fun (vs, e1) => (dArgs es e1).bind fun (ws, e2) => .ok (vs ++ ws, e2)
  | [], es, env => by
    show dArgs es env = (dArgs es env).bind _
    cases dArgs es env with
    | ok p => rfl
    | ex c fs e => rfl
    | stuck => rfl
  | d :: ds, es, env => by
    show dCons d (dArgs (ds ++ es)) env = (dCons d (dArgs ds) env).bind _
    unfold dCons
    cases h : d env with
    | ok p =>
      obtain ⟨v, e1⟩ := p
      simp only [Out.bind_ok]
      rw [dArgs_app ds es e1]
      cases h1 : dArgs ds e1 with
      | ok p =>
        obtain ⟨vs, e2⟩ := p
        simp only [Out.bind_ok]
        cases h2 : dArgs es e2 with
        | ok p => rfl
        | ex c fs e => rfl
        | stuck => rfl
      | ex c fs e => rfl
      | stuck => rfl
    | ex c fs e => rfl
    | stuck => rfl
theorem rps_getD {K : PySem.W.Frag} {O : Addr → Prop} {H : Hp} {ds : List PyData} {ps : List V} (r : Rps K O H ds ps) (j : Nat) : Rp K O H (ds.getD j .none) (ps.getD j .non) := by
  rw [List.getD_eq_getElem?_getD, List.getD_eq_getElem?_getD]
  cases h : ds[j]? with
  | none =>
    have hl := List.getElem?_eq_none_iff.mp h
    rw [r.length] at hl
    rw [List.getElem?_eq_none hl]
    exact .non
  | some d =>
    obtain ⟨v, h1, h2⟩ := r.get h
    rw [h1]
    exact h2
theorem rps_perm {K : PySem.W.Frag} {O : Addr → Prop} {H : Hp} {ds : List PyData} {ps : List V} (r : Rps K O H ds ps) : ∀ perm : List Nat, Rps K O H (perm' perm ds) (perm.map fun j => ps.getD j .non)
  | [] => .nil
  | j :: l => .cons (rps_getD r j) (rps_perm r l)
section
variable {X : Cx} {W : WX} {k j n np : Nat} {e : Expr} {es : List Expr} {ds kds : List D} {d : D} {pos p px kpos : Pos} {x y : Str} {F : Fn} {ks : List Str} {perm : List Nat} {kws : List Keyword} {nm : Option Str}
theorem dks_nil : DKs X W [] dNil := fun O0 => ⟨fun pos pins s σ H Q I ⟨env, ok, h⟩ => pk_nil.run pos pins s σ H Q I (h H (StpE.refl ok) [] .nil)⟩
theorem dks_cons {r : DA} (h : DE X W e d) (hr : DKs X W kws r) : DKs X W (⟨nm, e, kpos⟩ :: kws) (dCons d r) := fun O0 => ⟨fun pos pins s σ H Q I ⟨env, ok, q⟩ => (pk_cons (h O0) (hr O0)).run pos pins s σ H Q I
  ⟨env, ok, EndE.bind q fun v e1 H1 s1 q1 p rp => ⟨e1, s1.ok, EndE.bind q1 fun vs e2 H2 s2 q2 ps rps => q2 H2 (StpE.refl s2.ok) (p :: ps) (.cons (s2.step.rp s1.ok rp) rps)⟩⟩⟩
theorem callK_end {O0 : Addr → Prop} {env : En} {σ : L2.St} {H : Hp} {Q : VK} (hn : perm.length = n) (hp : ds.length = np) (hk : kds.length = ks.length) (ok : Ok X.K O0 env σ H)
    (q : EndE (Cx.pm X W O0) env σ H (fun v env' H' => ∀ p, Rp X.K (Al O0 env' σ) H' v p → Q p H') (dCallP F perm (ds ++ kds) env)) :
    tA (Cx.pm X W O0) (dArgs ds) σ H fun vs H1 => tA (Cx.pm X W O0) (dArgs kds) σ H1 fun zs H2 => spOf X.K X.mg n F (arr np ks.length perm .non vs zs) H2 Q (WE W σ) := by
  unfold dCallP at q
  rw [dArgs_app] at q
  refine ⟨env, ok, ?_⟩
  cases hd : dArgs ds env with
  | ex c fs e1 => rw [hd] at q; exact q
  | stuck => rw [hd] at q; exact q
  | ok pr =>
    obtain ⟨vs, e1⟩ := pr
    rw [hd] at q
    intro H1 s1 ps rps
    have hv := dArgs_len _ _ _ _ hd
    simp only [Out.bind_ok] at q
    have q1 := EndE.shift s1 q
    refine ⟨e1, s1.ok, ?_⟩
    cases hd2 : dArgs kds e1 with
    | ex c fs e2 => rw [hd2] at q1; exact q1
    | stuck => rw [hd2] at q1; exact q1
    | ok pr =>
      obtain ⟨ws, e2⟩ := pr
      rw [hd2] at q1
      intro H2 s2 zs rzs
      have hw := dArgs_len _ _ _ _ hd2
      simp only [Out.bind_ok] at q1
      have q2 := EndE.shift s2 q1
      have rall := (s2.step.rps s1.ok rps).append rzs
      have ha : arr np ks.length perm V.non ps zs = perm.map fun j => (ps ++ zs).getD j .non := by
        unfold arr
        rw [if_pos ⟨by rw [← rps.length]; omega, by rw [← rzs.length]; omega⟩]
      rw [ha]
      have rr := rps_perm rall perm
      refine ⟨Al O0 e2 σ, (perm' perm (vs ++ ws)).map .pv, by simp [perm', hn], by simp [Sl.arg], ok_pure s2.ok rr, ?_⟩
      cases hF : F ((perm' perm (vs ++ ws)).map .pv) with
      | val v as' => rw [hF] at q2; exact fun H' p st r => q2 H' (pure_step s2.ok st) p (Rp.goes (Goes.shrink fun a z => .inl z) _ _ r)
      | fresh ds' as' => rw [hF] at q2; exact fun H' a qs st fr => q2 H' (pure_step s2.ok st) _ (by
          have := fr.rp (fun z => by obtain ⟨xs, e⟩ := s2.ok.al z; rw [fr.new] at e; cases e)
          exact Rp.goes (Goes.shrink fun a z => .inl z) _ _ this)
      | ex c fs as' =>
        rw [hF] at q2
        refine fun H' cls d st xr => q2 H' cls d (pure_step s2.ok st) ?_
        obtain ⟨C, dd, qs, h1, h2, h3, h4, h5⟩ := xr
        exact ⟨C, dd, qs, h1, h2, h3, h4, Paired.mapP h5 fun f p z => ⟨z.1, Rp.goes (Goes.shrink fun a z => .inl z) _ _ z.2⟩⟩
      | stuck => rw [hF] at q2; exact q2.elim
/-- f(a, .., k = v, ..) -/
theorem de_callK (G : Gd X W k) (c : CalK X.prog X.w X.K X.mg X.base j x n np ks perm F) (hj : j ≤ k) (ha : DAs X W (e :: es) (dArgs ds)) (hkw : DKs X W kws (dArgs kds)) (hn : perm.length = n := by rfl) (hp : ds.length = np := by rfl) (hkl : kds.length = ks.length := by rfl)
    (hall : (backToKw pos (keywordEach kws X.env)).all (·.1.isSome) = true := by rfl) (hks : (backToKw pos (keywordEach kws X.env)).filterMap (·.1) = ks := by rfl) (hg : Gl X x := by rfl)
    (hdb : (x == ("__debug__" : Str)) = false := by decide) (he : starEach (e :: es) X.env = (false, eval e X.env) :: starEach es X.env := by rfl)
    (hpl : ((backTo pos (starEach (e :: es) X.env)).any (·.1) || (backToKw pos (keywordEach kws X.env)).any (·.1.isNone)) = false := by rfl) :
    DE X W (.Call (.Name x p) (e :: es) kws pos) (dCallP F perm (ds ++ kds)) := fun O0 => by
  obtain ⟨f, fd, ps, hf, hm, hk, hb⟩ := c.ex
  refine ⟨fun pins s σ H Q I ⟨env, ok, q⟩ => ?_⟩
  have hq := callK_end (ks := ks) hn hp hkl ok q
  refine wpAny_Call_Name_kw (ld_glob I hg hm ?_ hdb)
  refine PySem.W.callWith_KW (h₀ := X.base) I.ok.mod.kin hk hall (thn ((ha O0).run pos pins s σ H _ I hq) fun us s1 ⟨vs, H1, I1, r, q1⟩ => ?_) hpl he
  refine thn ((hkw O0).run pos pins s1 σ H1 _ I1 q1) fun ws s2 ⟨zs, H2, I2, rz, q2⟩ => ⟨I2.kIn, ?_⟩
  rw [hks]
  have hl : (arr np ks.length perm Value.none us ws).length = ps.length := by rw [← (hb.rel r rz).length]; exact hf.len _ _ _ _ q2
  refine wpAny_call (codeAny_mono ((hf.mono hj).run X.A X.stack s2 H2 ⟨us, ks.zip ws⟩ _ _ Q (WE W σ) G.room I2.env0 (hb.to s2 us ws I2.kIn hl) (hb.rel r rz) q2) fun r s' hq' => ?_)
  cases r with
  | error er => exact passAt G.takes σ pins H2 s2 er s' I2 hq'
  | ok fl =>
    cases fl with
    | ret u => exact I2.after hq'
    | next => exact False.elim hq'
    | brk => exact False.elim hq'
    | cont => exact False.elim hq'
theorem de_callK0 (G : Gd X W k) (c : CalK X.prog X.w X.K X.mg X.base j x n 0 ks perm F) (hj : j ≤ k) (hkw : DKs X W kws (dArgs kds)) (hn : perm.length = n := by rfl) (hkl : kds.length = ks.length := by rfl)
    (hall : (backToKw pos (keywordEach kws X.env)).all (·.1.isSome) = true := by rfl) (hks : (backToKw pos (keywordEach kws X.env)).filterMap (·.1) = ks := by rfl) (hg : Gl X x := by rfl)
    (hdb : (x == ("__debug__" : Str)) = false := by decide) (hpl : ((backTo pos (starEach [] X.env)).any (·.1) || (backToKw pos (keywordEach kws X.env)).any (·.1.isNone)) = false := by rfl) :
    DE X W (.Call (.Name x p) [] kws pos) (dCallP F perm kds) := fun O0 => by
  obtain ⟨f, fd, ps, hf, hm, hk, hb⟩ := c.ex
  refine ⟨fun pins s σ H Q I ⟨env, ok, q⟩ => ?_⟩
  obtain ⟨e0, ok0, hq⟩ := callK_end (ds := []) (np := 0) (ks := ks) (kds := kds) hn rfl hkl ok q
  have hq := hq H (StpE.refl ok0) [] .nil
  refine wpAny_Call_Name_kw (ld_glob I hg hm ?_ hdb)
  refine PySem.W.callWith_KW0 (h₀ := X.base) I.ok.mod.kin hk hall (thn ((hkw O0).run pos pins s σ H _ I hq) fun ws s2 ⟨zs, H2, I2, rz, q2⟩ => ⟨I2.kIn, ?_⟩) hpl
  rw [hks]
  have rel := hb.rel (vs := []) (us := []) .nil rz
  have hl : (arr 0 ks.length perm Value.none [] ws).length = ps.length := by rw [← rel.length]; exact hf.len _ _ _ _ q2
  refine wpAny_call (codeAny_mono ((hf.mono hj).run X.A X.stack s2 H2 ⟨[], ks.zip ws⟩ _ _ Q (WE W σ) G.room I2.env0 (hb.to s2 [] ws I2.kIn hl) rel q2) fun r s' hq' => ?_)
  cases r with
  | error er => exact passAt G.takes σ pins H2 s2 er s' I2 hq'
  | ok fl =>
    cases fl with
    | ret u => exact I2.after hq'
    | next => exact False.elim hq'
    | brk => exact False.elim hq'
    | cont => exact False.elim hq'
end

/-! ### the law's end -/
def spLaw (K : PySem.W.Frag) : Sp := fun vs H Q _ => ∃ (a : Addr) (ns : List Int), vs = [.ref a] ∧ Only H ∧ SqL K H a (ns.map V.int) ∧ ns.length ≤ 63 ∧ ∀ H', Q (.bl true) H'
theorem law_end {P : Program} {w : World} {K : PySem.W.Frag} {mg : Str → Option Value} {base : Heap} {k : Nat} {f : Addr} {fd : FuncData} {ps : List Str} {F : Fn} (h : FnOk P w K mg base (L2.CX P w) k f fd ps (spOf K mg 1 F))
    (hF : ∀ ns : List Int, ns.length ≤ 63 → ∃ as', F [.sc ns] = .val (.bool true) as') : FnOk P w K mg base (L2.CX P w) k f fd ps (spLaw K) :=
  h.imp fun vs H Q E ⟨a, ns, hv, ho, hs, hl, q⟩ => by
    subst hv
    obtain ⟨as', e⟩ := hF ns hl
    refine ⟨fun _ => False, [.sc ns], rfl, rfl, ⟨rfl, fun i s h => ?_, fun i j s t b h1 h2 h3 h4 h5 h6 => ?_, fun _ h => h.elim, fun _ _ h => h⟩, ?_⟩
    · have h' := slots_get.mp h
      cases i with
      | zero =>
        have : s = .sc ns := by simpa using h'.symm
        subst this
        refine ⟨.ref a, vals_get.mpr (by simp), a, rfl, ?_⟩
        rcases hs with (h | h) | h
        · rcases ho a with z | ⟨o, xs, z⟩
          · rw [h] at z; cases z
          · rw [h] at z; cases z
        · exact .inl h
        · exact .inr h
      | succ i => simp at h'
    · have h' := slots_get.mp h1
      cases i with
      | zero =>
        have : s = .sc ns := by simpa using h'.symm
        subst this
        cases h2
      | succ i => simp at h'
    · rw [e]
      exact fun H' p st r => by cases r; exact q H'
theorem cx_end {P : Program} {w : World} {H : Hp} {s : Shared} {e : Value} {s' : Shared} (h : L2.CX P w [] H s (fun _ _ _ => False) e s') : False := by
  obtain ⟨_, _, _, _, _, _, _, _, _, _, _, _, z⟩ := h
  exact z
end TL

/-! TL14: a, b, c = x, y, z; further rules. -/
namespace TL
open PySem PySem.Spec PyProof.Rows L2
section
variable {X : Cx} {W : WX} {k : Nat} {e a b c o : Expr} {d da db dc : D} {pos p : Pos} {x y z : Str}
def dPar3 (i j l : Nat) (a b c : D) : DS := fun env => (dArgs [a, b, c] env).goS fun vs e1 => Out.ofS (match vs with
  | [u, v, w] => (setPv e1 i u).bind fun e2 => (setPv e2 j v).bind fun e3 => setPv e3 l w
  | _ => none) fun e2 => .nx e2
theorem ds_par3 {i j l : Nat} {px py pz pt : Pos} {kt k2 pt2} (hc : X.calm = true) (hN : X.N.Nodup) (hi : X.N[i]? = some x) (hj : X.N[j]? = some y) (hl : X.N[l]? = some z) (hij : i ≠ j) (hil : i ≠ l) (hjl : j ≠ l)
    (hx : X.env.scope.names.lookup x = some .local) (hy : X.env.scope.names.lookup y = some .local) (hz : X.env.scope.names.lookup z = some .local) (ha : DAs X W [a, b, c] (dArgs [da, db, dc]))
    (hw : swappedStores [.Tuple [.Name x px, .Name y py, .Name z pz] kt pt] (.Tuple [a, b, c] k2 pt2) X.env = pure (some [x, y, z]) := by rfl)
    (hs : swapsWithSole [.Tuple [.Name x px, .Name y py, .Name z pz] kt pt] (.Tuple [a, b, c] k2 pt2) pos.line X.env = pure false := by rfl) :
    DSt X W (.Assign [.Tuple [.Name x px, .Name y py, .Name z pz] kt pt] (.Tuple [a, b, c] k2 pt2) pos) (dPar3 i j l da db dc) := fun O0 =>
  PS.imp (ps_par3 hc hN hi hj hl hij hil hjl hx hy hz (ha O0) hw hs) fun Dn σ H ⟨env, ok, q⟩ => ⟨env, ok, EndE.goS q fun vs e1 H1 s1 q1 ps rps => by
    obtain ⟨e2, h2, q2⟩ := EndS.of q1
    split at h2
    · rename_i u v w
      cases rps with
      | cons r1 r2 =>
      cases r2 with
      | cons r2 r3 =>
      cases r3 with
      | cons r3 r4 =>
      cases r4
      cases h3 : setPv e1 i u with
      | none => rw [h3] at h2; cases h2
      | some e3 =>
        rw [h3] at h2
        obtain ⟨hf, rfl⟩ := setPv_free h3
        cases h4 : setPv (e1.set i (some (.pv u))) j v with
        | none => simp only [Option.bind_some, h4, Option.bind_none] at h2; cases h2
        | some e4 =>
          simp only [Option.bind_some, h4] at h2
          obtain ⟨hf4, rfl⟩ := setPv_free h4
          obtain ⟨hf2, rfl⟩ := setPv_free h2
          have st := Stp.setPv s1.ok hf r1
          have st2 := Stp.setPv st.ok hf4 (st.rp s1.ok r2)
          exact ⟨_, _, _, rfl, q2 _ _ ((st.trans st2).trans (Stp.setPv st2.ok hf2 ((st.trans st2).rp s1.ok r3)))⟩
    · cases h2⟩
theorem od_subI {K : PySem.W.Frag} : OpD K (rI0 fun i j => .int (i - j)) pySub := od_I0 fun _ _ _ _ => .int _
def pyAddI := gI0 fun i j => .int (i + j)
end
end TL

/-! TL15: the pieces at a state: equations to reckon with. -/
namespace TL
open PySem PySem.Spec PyProof.Rows L2
section
variable {env e1 : En} {a b c d : D} {ds : List D} {i j l : Nat} {v w : PyData} {x y : DS} {t u : DT} {F : Fn}
@[simp] theorem ap_C : dC v env = .ok (v, env) := rfl
@[simp] theorem ap_Op {g : PyData → PyData → Option PyData} : dOp g a b env = (a env).bind fun p => (b p.2).bind fun q => (Out.of (g p.1 q.1)).bind fun u => .ok (u, q.2) := rfl
@[simp] theorem ap_Bool : dBool d env = (d env).bind fun p => match p.1 with | .bool b => .ok (b, p.2) | _ => .stuck := rfl
@[simp] theorem ap_Chain {g g' : PyData → PyData → Option PyData} : dChain g g' a b c env = (a env).bind fun p => (b p.2).bind fun q => (Out.of (g p.1 q.1)).bind fun z => match z with
  | .bool true => (c q.2).bind fun r => (Out.of (g' q.1 r.1)).bind fun s => .ok (s, r.2)
  | .bool false => .ok (.bool false, q.2)
  | _ => .stuck := rfl
@[simp] theorem ap_Truth : dTruth d env = (d env).bind fun p => (Out.of (truth p.1)).bind fun b => .ok (b, p.2) := rfl
@[simp] theorem ap_And : dAnd t u env = (t env).bind fun p => if p.1 = true then u p.2 else .ok (false, p.2) := rfl
@[simp] theorem ap_Or : dOr t u env = (t env).bind fun p => if p.1 = true then .ok (true, p.2) else u p.2 := rfl
@[simp] theorem ap_Not : dNot t env = (t env).bind fun p => .ok (!p.1, p.2) := rfl
@[simp] theorem ap_AndV : dAndV a b env = (a env).bind fun p => (Out.of (truth p.1)).bind fun t => if t = true then b p.2 else .ok (p.1, p.2) := rfl
@[simp] theorem ap_OrV : dOrV a b env = (a env).bind fun p => (Out.of (truth p.1)).bind fun t => if t = true then .ok (p.1, p.2) else b p.2 := rfl
@[simp] theorem ap_NotV : dNotV a env = (a env).bind fun p => (Out.of (truth p.1)).bind fun t => .ok (.bool (!t), p.2) := rfl
@[simp] theorem ap_If : dIf t a b env = (t env).bind fun p => if p.1 = true then a p.2 else b p.2 := rfl
@[simp] theorem ap_Neg : dNeg a env = (a env).bind fun p => match p.1 with | .int i => .ok (.int (-i), p.2) | _ => .stuck := rfl
@[simp] theorem ap_args_nil : dArgs [] env = .ok ([], env) := rfl
@[simp] theorem ap_args_cons : dArgs (d :: ds) env = (d env).bind fun p => (dArgs ds p.2).bind fun q => .ok (p.1 :: q.1, q.2) := rfl
@[simp] theorem ap_Tup : dTup ds env = (dArgs ds env).bind fun p => .ok (.tuple p.1, p.2) := rfl
@[simp] theorem ap_Lst : dLst ds env = (dArgs ds env).bind fun p => .ok (.list p.1, p.2) := rfl
@[simp] theorem ap_fLst : fLst ds env = dArgs ds env := rfl
@[simp] theorem ap_CB {g : List PyData → Option PyData} : dCB g ds env = (dArgs ds env).bind fun p => (Out.of (g p.1)).bind fun u => .ok (u, p.2) := rfl
@[simp] theorem ap_IsA {T : String} : dIsA T d env = (d env).bind fun p => (Out.of (isA T p.1)).bind fun b => .ok (.bool b, p.2) := rfl
@[simp] theorem ap_IsAny {T : List String} : dIsAny T d env = (d env).bind fun p => (Out.of (kitL T (tyS p.1))).bind fun b => .ok (.bool b, p.2) := rfl
@[simp] theorem ap_LenO : dLenO i env = (Out.of (seqAt env i)).bind fun ds => .ok (.int ds.length, env) := rfl
@[simp] theorem ap_IxO : dIxO i b env = (Out.of (seqAt env i)).bind fun _ => (b env).bind fun q => (Out.of (ixO (seqAt q.2 i) q.1)).bind fun u => .ok (u, q.2) := rfl
@[simp] theorem ap_Call : dCall F ds env = (dArgs ds env).bind fun p => Out.call (F (p.1.map .pv)) fun _ => p.2 := rfl
@[simp] theorem ap_fCall : fCall F ds env = (dArgs ds env).bind fun p => Out.callF (F (p.1.map .pv)) fun _ => p.2 := rfl
@[simp] theorem ap_CallP {perm : List Nat} : dCallP F perm ds env = (dArgs ds env).bind fun p => Out.call (F ((perm' perm p.1).map .pv)) fun _ => p.2 := rfl
@[simp] theorem ap_CallS : dCallS F i ds env = (Out.of (refAt env i)).bind fun _ => (dArgs ds env).bind fun p => (Out.of (refAt p.2 i)).bind fun s => Out.call (F (s :: p.1.map .pv)) fun as => putRef p.2 i s as := rfl
@[simp] theorem ap_fCallS : fCallS F i ds env = (Out.of (refAt env i)).bind fun _ => (dArgs ds env).bind fun p => (Out.of (refAt p.2 i)).bind fun s => Out.callF (F (s :: p.1.map .pv)) fun as => putRef p.2 i s as := rfl
@[simp] theorem call_val {as : List Sl} {f : List Sl → En} : Out.call (.val v as) f = .ok (v, f as) := rfl
@[simp] theorem call_fresh {as : List Sl} {vs : List PyData} {f : List Sl → En} : Out.call (.fresh vs as) f = .ok (.list vs, f as) := rfl
@[simp] theorem call_ex {as : List Sl} {n : Str} {fs : List (Str × PyData)} {f : List Sl → En} : Out.call (.ex n fs as) f = .ex n fs (f as) := rfl
@[simp] theorem callF_fresh {as : List Sl} {vs : List PyData} {f : List Sl → En} : Out.callF (.fresh vs as) f = .ok (vs, f as) := rfl
@[simp] theorem ap_Seq : dSeq x y env = (x env).then y := rfl
@[simp] theorem ap_Pass : dPass env = .nx env := rfl
@[simp] theorem ap_Ret : dRet d env = (d env).goS fun v e1 => .rt v e1 := rfl
@[simp] theorem ap_RetN : dRetN env = .rt .none env := rfl
@[simp] theorem ap_RetF {f : DL} : dRetF f env = (f env).goS fun v e1 => .rl v e1 := rfl
@[simp] theorem ap_Expr : dExpr d env = (d env).goS fun _ e1 => .nx e1 := rfl
@[simp] theorem ap_IfS : dIfS t x y env = (t env).goS fun v e1 => if v = true then x e1 else y e1 := rfl
@[simp] theorem ap_Asg {g : DG} : dAsg d g env = (d env).goS fun v e1 => Out.ofS (g v e1) fun e2 => .nx e2 := rfl
@[simp] theorem ap_AsgO {f : DL} : dAsgO i f env = (f env).goS fun ds e1 => Out.ofS (setOw e1 i ds) fun e2 => .nx e2 := rfl
@[simp] theorem ap_Nm : gNm i v env = setPv env i v := rfl
@[simp] theorem ap_Par : dPar i j a b env = (dArgs [a, b] env).goS fun vs e1 => Out.ofS (match vs with
  | [v, w] => (setPv e1 i v).bind fun e2 => setPv e2 j w
  | _ => none) fun e2 => .nx e2 := rfl
@[simp] theorem ap_Par3 : dPar3 i j l a b c env = (dArgs [a, b, c] env).goS fun vs e1 => Out.ofS (match vs with
  | [u, v, w] => (setPv e1 i u).bind fun e2 => (setPv e2 j v).bind fun e3 => setPv e3 l w
  | _ => none) fun e2 => .nx e2 := rfl
@[simp] theorem ap_SetIx : dSetIx i b d env = (d env).goS fun v e1 => Out.ofS (ownAt e1 i) fun _ => (b e1).goS fun w e2 => Out.ofS (ixW (ownAt e2 i) w v) fun ds => .nx (putOw e2 i ds) := rfl
@[simp] theorem ap_Raise {n at' : Str} : dRaise n at' d env = (d env).goS fun v e1 => .ex n [(at', v)] e1 := rfl
@[simp] theorem ap_gTp {n : Nat} {r : List PyData → En → Option En} {vs : List PyData} : gTp n r (.tuple vs) env = if vs.length = n then r vs env else none := rfl
@[simp] theorem ap_gsC {g : DG} {r : List PyData → En → Option En} {vs : List PyData} : gsC g r (v :: vs) env = (g v env).bind fun e1 => r vs e1 := rfl
@[simp] theorem ap_gs0 : gs0 [] env = some env := rfl
@[simp] theorem ap_For {f : DL} {g : DG} : dFor f g x env = (f env).goS fun vs e1 => loopF g x vs e1 := rfl
@[simp] theorem ap_ItA {f : List PyData → Option (List PyData)} : dItA f ds env = (dArgs ds env).bind fun p => (Out.of (f p.1)).bind fun vs => .ok (vs, p.2) := rfl
@[simp] theorem ap_It {f : PyData → Option (List PyData)} : dIt f d env = (d env).bind fun p => (Out.of (f p.1)).bind fun vs => .ok (vs, p.2) := rfl
@[simp] theorem loop_nil {g : DG} : loopF g x [] env = .nx env := rfl
/-- slots -/
def Fr : Option Sl → Bool
  | none => true
  | some (.pv _) => true
  | some (.ow _) => true
  | _ => false
@[simp] theorem fr_none : Fr none = true := rfl
@[simp] theorem fr_pv : Fr (some (.pv v)) = true := rfl
@[simp] theorem fr_ow {vs : List PyData} : Fr (some (.ow vs)) = true := rfl
theorem free_fr {x : Option Sl} (h : env[i]? = some x) : free? env i = Fr x := by
  unfold free?
  rw [h]
  cases x with
  | none => rfl
  | some s => cases s <;> rfl
@[simp] theorem free_0 {x : Option Sl} {r : En} : free? (x :: r) 0 = Fr x := free_fr rfl
@[simp] theorem free_s {x : Option Sl} {r : En} {n : Nat} : free? (x :: r) (n + 1) = free? r n := rfl
theorem setPv_eq : setPv env i v = if free? env i = true then some (env.set i (some (.pv v))) else none := rfl
theorem setOw_eq {vs : List PyData} : setOw env i vs = if free? env i = true then some (env.set i (some (.ow vs))) else none := rfl
@[simp] theorem setPv_0 {x : Option Sl} {r : En} : setPv (x :: r) 0 v = if Fr x = true then some (some (.pv v) :: r) else none := by simp [setPv_eq]
@[simp] theorem setPv_s {x : Option Sl} {r : En} {n : Nat} : setPv (x :: r) (n + 1) v = (setPv r n v).map (x :: ·) := by
  simp only [setPv_eq, free_s, List.set_cons_succ]
  by_cases h : free? r n = true <;> simp [h]
@[simp] theorem setOw_0 {x : Option Sl} {r : En} {vs : List PyData} : setOw (x :: r) 0 vs = if Fr x = true then some (some (.ow vs) :: r) else none := by simp [setOw_eq]
@[simp] theorem setOw_s {x : Option Sl} {r : En} {n : Nat} {vs : List PyData} : setOw (x :: r) (n + 1) vs = (setOw r n vs).map (x :: ·) := by
  simp only [setOw_eq, free_s, List.set_cons_succ]
  by_cases h : free? r n = true <;> simp [h]
@[simp] theorem var_pv0 {r : En} : dVar 0 (some (.pv v) :: r) = .ok (v, some (.pv v) :: r) := rfl
@[simp] theorem var_ow0 {r : En} {vs : List PyData} : dVar 0 (some (.ow vs) :: r) = .ok (.list vs, some (.pv (.list vs)) :: r) := rfl
def Out.up (x : Option Sl) : Out (PyData × En) → Out (PyData × En)
  | .ok (v, e) => .ok (v, x :: e)
  | .ex c fs e => .ex c fs (x :: e)
  | .stuck => .stuck
@[simp] theorem up_ok {x : Option Sl} : Out.up x (.ok (v, env)) = .ok (v, x :: env) := rfl
@[simp] theorem up_stuck {x : Option Sl} : Out.up x .stuck = .stuck := rfl
@[simp] theorem var_s {x : Option Sl} {r : En} {n : Nat} : dVar (n + 1) (x :: r) = Out.up x (dVar n r) := by
  unfold dVar
  simp only [List.getElem?_cons_succ, List.set_cons_succ]
  cases h : r[n]? with
  | none => rfl
  | some y =>
    cases y with
    | none => rfl
    | some s => cases s <;> rfl
@[simp] theorem seq_0 {s : Sl} {r : En} : seqAt (some s :: r) 0 = s.items := rfl
@[simp] theorem seq_s {x : Option Sl} {r : En} {n : Nat} : seqAt (x :: r) (n + 1) = seqAt r n := rfl
@[simp] theorem own_ow0 {r : En} {vs : List PyData} : ownAt (some (.ow vs) :: r) 0 = some vs := rfl
@[simp] theorem own_io0 {r : En} {vs : List PyData} : ownAt (some (.io vs) :: r) 0 = some vs := rfl
@[simp] theorem own_s {x : Option Sl} {r : En} {n : Nat} : ownAt (x :: r) (n + 1) = ownAt r n := rfl
@[simp] theorem put_ow0 {r : En} {vs ws : List PyData} : putOw (some (.ow vs) :: r) 0 ws = some (.ow ws) :: r := rfl
@[simp] theorem put_io0 {r : En} {vs ws : List PyData} : putOw (some (.io vs) :: r) 0 ws = some (.io ws) :: r := rfl
@[simp] theorem put_s {x : Option Sl} {r : En} {n : Nat} {ws : List PyData} : putOw (x :: r) (n + 1) ws = x :: putOw r n ws := by
  unfold putOw
  simp only [List.getElem?_cons_succ, List.set_cons_succ]
  cases h : r[n]? with
  | none => rfl
  | some y => cases y <;> rfl
@[simp] theorem ref_ow0 {r : En} {vs : List PyData} : refAt (some (.ow vs) :: r) 0 = some (.io vs) := rfl
@[simp] theorem ref_io0 {r : En} {vs : List PyData} : refAt (some (.io vs) :: r) 0 = some (.io vs) := rfl
@[simp] theorem ref_sc0 {r : En} {ns : List Int} : refAt (some (.sc ns) :: r) 0 = some (.sc ns) := rfl
@[simp] theorem ref_s {x : Option Sl} {r : En} {n : Nat} : refAt (x :: r) (n + 1) = refAt r n := rfl
@[simp] theorem putRef_io {vs ws : List PyData} {as : List Sl} : putRef env i (.io vs) (.io ws :: as) = putOw env i ws := rfl
@[simp] theorem putRef_sc {ns : List Int} {as : List Sl} : putRef env i (.sc ns) as = env := rfl
@[simp] theorem items_ow {vs : List PyData} : (Sl.ow vs).items = some vs := rfl
@[simp] theorem items_io {vs : List PyData} : (Sl.io vs).items = some vs := rfl
@[simp] theorem items_sc {ns : List Int} : (Sl.sc ns).items = some (ns.map .int) := rfl
/-! numbers -/
@[simp] theorem add_int {m n : Int} : pyAdd (.int m) (.int n) = some (.int (m + n)) := rfl
@[simp] theorem sub_int {m n : Int} : pySub (.int m) (.int n) = some (.int (m - n)) := rfl
theorem mul_int {m n : Int} (h : MulOk m n) : pyMul (.int m) (.int n) = some (.int (m * n)) := if_pos h
theorem div_int {m n : Int} (h : DivOk m n) : pyDiv (.int m) (.int n) = some (.int (m.fdiv n)) := if_pos h
theorem mod_int {m n : Int} (h : n ≠ 0) : pyMod (.int m) (.int n) = some (.int (m.fmod n)) := if_pos h
theorem mod_pos {m n : Int} (h : 0 < n) : pyMod (.int m) (.int n) = some (.int (m % n)) := by
  rw [mod_int (by omega), Int.fmod_eq_emod_of_nonneg m (by omega)]
theorem div_pos {m n : Int} (h : 0 < n) (hl : n.natAbs.log2 < 9000) : pyDiv (.int m) (.int n) = some (.int (m / n)) := by
  rw [div_int ⟨by omega, hl⟩, Int.fdiv_eq_ediv_of_nonneg m (by omega)]
theorem pow_int {m n : Int} (h : PowOk m n) : pyPow (.int m) (.int n) = some (.int (m ^ n.toNat)) := if_pos h
@[simp] theorem lt_int {m n : Int} : pyLt (.int m) (.int n) = some (.bool (decide (m < n))) := rfl
@[simp] theorem le_int {m n : Int} : pyLe (.int m) (.int n) = some (.bool (decide (m ≤ n))) := rfl
@[simp] theorem gt_int {m n : Int} : pyGt (.int m) (.int n) = some (.bool (decide (n < m))) := rfl
@[simp] theorem ge_int {m n : Int} : pyGe (.int m) (.int n) = some (.bool (decide (n ≤ m))) := rfl
@[simp] theorem eq_int {m n : Int} : pyEq (.int m) (.int n) = some (.bool (m == n)) := rfl
@[simp] theorem ne_int {m n : Int} : pyNe (.int m) (.int n) = some (.bool (!(m == n))) := rfl
@[simp] theorem int_int {n : Int} : pyInt [.int n] = some (.int n) := rfl
@[simp] theorem int_bool {b : Bool} : pyInt [.bool b] = some (.int (if b then 1 else 0)) := rfl
@[simp] theorem max2_int {m n : Int} : pyMax2 [.int m, .int n] = some (.int (if n > m then n else m)) := rfl
@[simp] theorem min2_int {m n : Int} : pyMin2 [.int m, .int n] = some (.int (if n < m then n else m)) := rfl
@[simp] theorem gcd_int {m n : Int} : pyGcd [.int m, .int n] = some (.int (Nat.gcd m.natAbs n.natAbs : Nat)) := rfl
@[simp] theorem len_tup {vs : List PyData} : pyLen [.tuple vs] = some (.int vs.length) := rfl
@[simp] theorem len_lst {vs : List PyData} : pyLen [.list vs] = some (.int vs.length) := rfl
@[simp] theorem tr_bool {b : Bool} : truth (.bool b) = some b := rfl
@[simp] theorem is_bool {b c : Bool} : pyIs (.bool b) (.bool c) = some (.bool (decide (b = c))) := rfl
@[simp] theorem isnot_bool {b c : Bool} : pyIsNot (.bool b) (.bool c) = some (.bool (!decide (b = c))) := rfl
@[simp] theorem ix_t0 {r : List PyData} : pyIx (.tuple (v :: r)) (.int 0) = some v := by
  show atI (v :: r) ((0 : Nat) : Int) = some v
  exact atI_nat rfl
@[simp] theorem ix_t1 {r : List PyData} : pyIx (.tuple (v :: w :: r)) (.int 1) = some w := by
  show atI (v :: w :: r) ((1 : Nat) : Int) = some w
  exact atI_nat rfl
@[simp] theorem ixO_0 {r : List PyData} : ixO (some (v :: r)) (.int 0) = some v := ix_t0
@[simp] theorem ixO_1 {r : List PyData} : ixO (some (v :: w :: r)) (.int 1) = some w := ix_t1
@[simp] theorem ixW_0 {r : List PyData} : ixW (some (v :: r)) (.int 0) w = some (w :: r) := by
  unfold ixW ixN
  simp
@[simp] theorem ixW_1 {r : List PyData} {z : PyData} : ixW (some (v :: w :: r)) (.int 1) z = some (v :: z :: r) := by
  unfold ixW ixN
  simp
  omega
end
end TL

/-! TL16: the source of draws, as every law has it; sizes. -/
namespace TL
open PySem PySem.Spec PyProof.Rows L2
/-- a source: what is left of the great number, and the mixed one -/
structure Src where
  a : Int
  b : Int
  ha : 0 ≤ a
  hb : 0 ≤ b ∧ b < 2147483647
def Src.l (s : Src) : List PyData := [.int s.a, .int s.b]
def Src.draw (s : Src) (t : Int) : Int × Src :=
  if h : 0 < t then
    if 0 < s.a then (s.a % t, ⟨s.a / t, s.b, Int.ediv_nonneg s.ha (by omega), s.hb⟩)
    else
      let b' := (s.b * 39373 + 7) % 2147483647
      (b' * b' % 2147483629 / 32 % t, ⟨s.a, b', s.ha, Int.emod_nonneg _ (by decide), Int.emod_lt_of_pos _ (by decide)⟩)
  else (0, s)
theorem Src.draw_nn (s : Src) {t : Int} (h : 0 < t) : 0 ≤ (s.draw t).1 := by
  unfold Src.draw
  rw [dif_pos h]
  split
  · exact Int.emod_nonneg _ (by omega)
  · exact Int.emod_nonneg _ (by omega)
theorem Src.draw_lt (s : Src) {t : Int} (h : 0 < t) : (s.draw t).1 < t := by
  unfold Src.draw
  rw [dif_pos h]
  split
  · exact Int.emod_lt_of_pos _ h
  · exact Int.emod_lt_of_pos _ h
/-! sizes: |n| below 2 ^ k -/
def Sz (k : Nat) (n : Int) : Prop := n.natAbs < 2 ^ k
theorem Sz.mono {j k : Nat} {n : Int} (h : Sz j n) (hk : j ≤ k) : Sz k n := Nat.lt_of_lt_of_le h (Nat.pow_le_pow_right (by decide) hk)
theorem log2_lt {m k : Nat} (h : m < 2 ^ k) (hk : 0 < k) : m.log2 < k := by
  by_cases hm : m = 0
  · subst hm
    simpa using hk
  · exact (Nat.log2_lt hm).mpr h
theorem Sz.log {k : Nat} {n : Int} (h : Sz k n) (hk : 0 < k) : n.natAbs.log2 < k := log2_lt h hk
theorem Sz.mulOk {j k : Nat} {m n : Int} (h1 : Sz j m) (h2 : Sz k n) (hj : 0 < j) (hk : 0 < k) (h : j + k ≤ 1000000) : MulOk m n := .inr (by
  have := h1.log hj
  have := h2.log hk
  omega)
theorem Sz.mul {j k : Nat} {m n : Int} (h1 : Sz j m) (h2 : Sz k n) : Sz (j + k) (m * n) := by
  unfold Sz at *
  rw [Int.natAbs_mul, Nat.pow_add]
  exact Nat.mul_lt_mul'' h1 h2
theorem Sz.add {k : Nat} {m n : Int} (h1 : Sz k m) (h2 : Sz k n) : Sz (k + 1) (m + n) := by
  unfold Sz at *
  have := Int.natAbs_add_le m n
  rw [Nat.pow_succ]
  omega
theorem Sz.sub {k : Nat} {m n : Int} (h1 : Sz k m) (h2 : Sz k n) : Sz (k + 1) (m - n) := by
  unfold Sz at *
  have := Int.natAbs_sub_le m n
  rw [Nat.pow_succ]
  omega
theorem Sz.neg {k : Nat} {n : Int} (h : Sz k n) : Sz k (-n) := by
  unfold Sz at *
  rw [Int.natAbs_neg]
  exact h
theorem Sz.of {k : Nat} {n : Int} (h1 : -(2 ^ k : Int) < n) (h2 : n < 2 ^ k) : Sz k n := by
  unfold Sz
  have e : ((2 ^ k : Nat) : Int) = 2 ^ k := by simp
  omega
theorem MulOk.left {m n : Int} (h : -(2 ^ 64) < m ∧ m < 2 ^ 64) : MulOk m n := .inl (.inl h)
theorem MulOk.right {m n : Int} (h : -(2 ^ 64) < n ∧ n < 2 ^ 64) : MulOk m n := .inl (.inr h)

/-! the three defs -/
def bTake : DS :=
    (dSeq (dIfS (dBool (dOp pyGt (dIxO 0 (dC (.int 0))) (dC (.int 0)))) (dSeq (dAsg (dOp pyMod (dCB pyInt [(dIxO 0 (dC (.int 0)))]) (dVar 1)) (gNm 2))
    (dSeq (dSetIx 0 (dC (.int 0)) (dOp pyDiv (dIxO 0 (dC (.int 0))) (dVar 1)))
    (dRet (dVar 2)))) dPass)
    (dSeq (dSetIx 0 (dC (.int 1)) (dOp pyMod (dCB pyInt [(dOp pyAdd (dOp pyMul (dIxO 0 (dC (.int 1))) (dC (.int 39373))) (dC (.int 7)))]) (dC (.int 2147483647))))
    (dRet (dOp pyMod (dCB pyInt [(dOp pyDiv (dOp pyMod (dCB pyInt [(dOp pyMul (dIxO 0 (dC (.int 1))) (dIxO 0 (dC (.int 1))))]) (dC (.int 2147483629))) (dC (.int 32)))]) (dVar 1)))))
def FTake : Fn := runF 3 bTake
theorem take_eq (s : Src) (t : Int) (h : 0 < t) (hl : t.natAbs.log2 < 9000) : FTake [.io s.l, .pv (.int t)] = .val (.int (s.draw t).1) [.io (s.draw t).2.l, .pv (.int t)] := by
  obtain ⟨a, b, ha, hb⟩ := s
  unfold FTake runF bTake
  by_cases h0 : 0 < a
  · simp [slots, Src.l, h0, Src.draw, h, mod_pos h, div_pos h hl, backs, backAt]
  · have m1 : pyMul (.int b) (.int 39373) = some (.int (b * 39373)) := mul_int (.right (by decide))
    have p1 : pyMod (.int (b * 39373 + 7)) (.int 2147483647) = some (.int ((b * 39373 + 7) % 2147483647)) := mod_pos (by decide)
    have hb0 := Int.emod_nonneg (b * 39373 + 7) (show (2147483647 : Int) ≠ 0 by decide)
    have hb1 := Int.emod_lt_of_pos (b * 39373 + 7) (show (0 : Int) < 2147483647 by decide)
    generalize hc : (b * 39373 + 7) % 2147483647 = c at hb0 hb1 p1
    have m2 : pyMul (.int c) (.int c) = some (.int (c * c)) := mul_int (.right (by omega))
    have p2 : pyMod (.int (c * c)) (.int 2147483629) = some (.int (c * c % 2147483629)) := mod_pos (by decide)
    have p3 : pyDiv (.int (c * c % 2147483629)) (.int 32) = some (.int (c * c % 2147483629 / 32)) := div_pos (by decide) (by decide)
    simp [slots, Src.l, h0, Src.draw, h, mod_pos h, m1, p1, m2, p2, p3, backs, backAt, hc]
end TL

/-! TL17: the pool, one of some things, the law's loop over the cells. -/
namespace TL
open PySem PySem.Spec PyProof.Rows L2
theorem seq_nx {a b : DS} {e e1 : En} (h : a e = .nx e1) : dSeq a b e = b e1 := by
  unfold dSeq
  rw [h]
  rfl
theorem runF_nx {n : Nat} {body : DS} {as : List Sl} {e0 env : En} (he : slots as ++ List.replicate (n - as.length) none = e0) (h : body e0 = .nx env) : runF n body as = .val .none (backs as env) := by
  unfold runF
  rw [he, h]
theorem runF_rt {n : Nat} {body : DS} {as : List Sl} {e0 env : En} {v : PyData} (he : slots as ++ List.replicate (n - as.length) none = e0) (h : body e0 = .rt v env) : runF n body as = .val v (backs as env) := by
  unfold runF
  rw [he, h]
theorem runF_rl {n : Nat} {body : DS} {as : List Sl} {e0 env : En} {ds : List PyData} (he : slots as ++ List.replicate (n - as.length) none = e0) (h : body e0 = .rl ds env) : runF n body as = .fresh ds (backs as env) := by
  unfold runF
  rw [he, h]
theorem runF_ex {n : Nat} {body : DS} {as : List Sl} {e0 env : En} {c fs} (he : slots as ++ List.replicate (n - as.length) none = e0) (h : body e0 = .ex c fs env) : runF n body as = .ex c fs (backs as env) := by
  unfold runF
  rw [he, h]
def bPoolR : DS :=
    (dSeq (dAsg (dCB pyMax2 [(dCB pyInt [(dVar 2)]), (dCB pyInt [(dOp pySub (dNeg (dC (.int 1))) (dVar 2))])]) (gNm 3))
    (dSeq (dAsg (dOp pyMod (dCB pyInt [(dOp pyMul (dOp pyAdd (dOp pyAdd (dOp pyAdd (dOp pyMod (dCB pyInt [(dVar 3)]) (dC (.int 2147483629))) (dOp pyMul (dOp pyMul (dC (.int 7919)) (dVar 1)) (dVar 1))) (dOp pyMul (dC (.int 31)) (dVar 1))) (dC (.int 17))) (dC (.int 48271)))]) (dC (.int 2147483647))) (gNm 4))
    (dRetF (fLst [(dOp pyMul (dVar 3) (dCB pyInt [(dOp pyGe (dVar 3) (dOp pyPow (dC (.int 10)) (dC (.int 18))))])), (dVar 4)]))))
def bPool : DS :=
    (dSeq (dAsg (dC (.int 0)) (gNm 2))
    (dSeq (dIfS (dBool (dOp pyLt (dVar 1) (dLenO 0))) (dAsg (dIxO 0 (dVar 1)) (gNm 2)) dPass) bPoolR))
def FPool : Fn := runF 5 bPool
def poolBig (cell : Int) : Int := if -1 - cell > cell then -1 - cell else cell
theorem poolBig_nn (cell : Int) : 0 ≤ poolBig cell := by
  unfold poolBig
  split <;> omega
def poolMul (x : Int) : Int := x * (if 1000000000000000000 ≤ x then 1 else 0)
theorem poolMul_nn {x : Int} (h : 0 ≤ x) : 0 ≤ poolMul x := by
  unfold poolMul
  split <;> omega
def poolMix (x k : Int) : Int := (x % 2147483629 + 7919 * k * k + 31 * k + 17) * 48271 % 2147483647
def pool2 (cell k : Int) : Src := ⟨poolMul (poolBig cell), poolMix (poolBig cell) k, poolMul_nn (poolBig_nn cell), Int.emod_nonneg _ (by decide), Int.emod_lt_of_pos _ (by decide)⟩
def pool (ns : List Int) (k : Nat) : Src := pool2 (ns.getD k 0) k
theorem poolMul_py (x : Int) : pyMul (.int x) (.int (if 1000000000000000000 ≤ x then 1 else 0)) = some (.int (poolMul x)) := mul_int (.right (by split <;> decide))
theorem poolMix_py (x : Int) (k : Int) : pyMod (.int ((x % 2147483629 + 7919 * k * k + 31 * k + 17) * 48271)) (.int 2147483647) = some (.int (poolMix x k)) := mod_pos (by decide)
theorem poolBig_py (cell : Int) : pyMax2 [.int cell, .int (-1 - cell)] = some (.int (poolBig cell)) := by
  unfold poolBig
  simp
theorem poolMix_step (A B C D E F : Int) (ns : List Int) (k cell big : Int) (r : PyData) (n1 n2 n3 n4 n5 : Int) (h1 : pyMod (.int big) (.int A) = some (.int n1)) (h2 : pyMul (.int B) (.int k) = some (.int n2)) (h3 : pyMul (.int n2) (.int k) = some (.int n3)) (h4 : pyMul (.int C) (.int k) = some (.int n4)) (h5 : pyMul (.int (n1 + n3 + n4 + D)) (.int E) = some (.int n5)) (h6 : pyMod (.int n5) (.int F) = some r) :
    (dAsg (dOp pyMod (dCB pyInt [(dOp pyMul (dOp pyAdd (dOp pyAdd (dOp pyAdd (dOp pyMod (dCB pyInt [(dVar 3)]) (dC (.int A))) (dOp pyMul (dOp pyMul (dC (.int B)) (dVar 1)) (dVar 1))) (dOp pyMul (dC (.int C)) (dVar 1))) (dC (.int D))) (dC (.int E)))]) (dC (.int F))) (gNm 4)) [some (.sc ns), some (.pv (.int k)), some (.pv (.int cell)), some (.pv (.int big)), none] = .nx [some (.sc ns), some (.pv (.int k)), some (.pv (.int cell)), some (.pv (.int big)), some (.pv r)] := by
  simp [h1, h2, h3, h4, h5, h6]
theorem poolMix_eq (ns : List Int) (k : Nat) (hk : k ≤ 1000) (cell big : Int) : (dAsg (dOp pyMod (dCB pyInt [(dOp pyMul (dOp pyAdd (dOp pyAdd (dOp pyAdd (dOp pyMod (dCB pyInt [(dVar 3)]) (dC (.int 2147483629))) (dOp pyMul (dOp pyMul (dC (.int 7919)) (dVar 1)) (dVar 1))) (dOp pyMul (dC (.int 31)) (dVar 1))) (dC (.int 17))) (dC (.int 48271)))]) (dC (.int 2147483647))) (gNm 4)) [some (.sc ns), some (.pv (.int k)), some (.pv (.int cell)), some (.pv (.int big)), none] = .nx [some (.sc ns), some (.pv (.int k)), some (.pv (.int cell)), some (.pv (.int big)), some (.pv (.int (poolMix big k)))] :=
  poolMix_step _ _ _ _ _ _ ns k cell big _ _ _ _ _ _ (mod_pos (by decide)) (mul_int (.left (by decide))) (mul_int (.left (by omega))) (mul_int (.left (by decide))) (mul_int (.right (by decide))) (mod_pos (by decide))
theorem poolR_eq (ns : List Int) (k : Nat) (hk : k ≤ 1000) (cell : Int) : bPoolR [some (.sc ns), some (.pv (.int k)), some (.pv (.int cell)), none, none] = .rl (pool2 cell k).l [some (.sc ns), some (.pv (.int k)), some (.pv (.int cell)), some (.pv (.int (poolBig cell))), some (.pv (.int (poolMix (poolBig cell) k)))] := by
  have w1 : pyPow (.int 10) (.int 18) = some (.int 1000000000000000000) := pow_int (by decide)
  unfold bPoolR
  have hB := poolBig_py cell
  have h1 : (dAsg (dCB pyMax2 [(dCB pyInt [(dVar 2)]), (dCB pyInt [(dOp pySub (dNeg (dC (.int 1))) (dVar 2))])]) (gNm 3)) [some (.sc ns), some (.pv (.int k)), some (.pv (.int cell)), none, none] = .nx [some (.sc ns), some (.pv (.int k)), some (.pv (.int cell)), some (.pv (.int (poolBig cell))), none] := by
    simp [hB]
  refine (seq_nx h1).trans ?_
  refine (seq_nx (poolMix_eq ns k hk cell _)).trans ?_
  show _ = OutS.rl [PyData.int (poolMul (poolBig cell)), PyData.int (poolMix (poolBig cell) k)] _
  generalize poolMix (poolBig cell) k = mix
  simp [w1, poolMul_py]
theorem pool_eq (ns : List Int) (k : Nat) (hk : k ≤ 1000) : FPool [.sc ns, .pv (.int k)] = .fresh (pool ns k).l [.sc ns, .pv (.int k)] := by
  have key : bPool [some (.sc ns), some (.pv (.int k)), none, none, none] = .rl (pool ns k).l [some (.sc ns), some (.pv (.int k)), some (.pv (.int (ns.getD k 0))), some (.pv (.int (poolBig (ns.getD k 0)))), some (.pv (.int (poolMix (poolBig (ns.getD k 0)) k)))] := by
    unfold bPool
    refine (seq_nx (e1 := [some (.sc ns), some (.pv (.int k)), some (.pv (.int 0)), none, none]) ?_).trans ?_
    · simp
    refine Eq.trans (seq_nx ?_) (poolR_eq ns k hk (ns.getD k 0))
    by_cases h : k < ns.length
    · have hc : ixO (some (ns.map .int)) (.int (k : Int)) = some (.int (ns.getD k 0)) := by
        show atI (ns.map PyData.int) (k : Int) = _
        refine atI_nat ?_
        rw [List.getElem?_map, List.getElem?_eq_getElem h, List.getD_eq_getElem?_getD, List.getElem?_eq_getElem h]
        rfl
      generalize ns.getD k 0 = cell at hc
      simp [h, hc]
    · have hc : ns.getD k 0 = 0 := by
        rw [List.getD_eq_getElem?_getD, List.getElem?_eq_none (by omega)]
        rfl
      rw [hc]
      simp [h]
  exact runF_rl (n := 5) (as := [.sc ns, .pv (.int k)]) rfl key

def bOne (T : Fn) : DS := (dRet (dOp pyIx (dVar 1) (dCallS T 0 [(dCB pyLen [(dVar 1)])])))
def FOne : Fn := runF 2 (bOne FTake)
def Src.one (s : Src) (n : Nat) : Nat × Src := ((s.draw n).1.toNat, (s.draw n).2)
theorem Src.one_lt (s : Src) {n : Nat} (h : 0 < n) : (s.one n).1 < n := by
  have h1 := s.draw_nn (t := (n : Int)) (by omega)
  have h2 := s.draw_lt (t := (n : Int)) (by omega)
  show (s.draw n).1.toNat < n
  omega
theorem one_eq (s : Src) (ds : List PyData) (h0 : 0 < ds.length) (h1 : ds.length ≤ 1000000) : FOne [.io s.l, .pv (.list ds)] = .val (ds.getD (s.one ds.length).1 .none) [.io (s.one ds.length).2.l, .pv (.list ds)] := by
  have ht := take_eq s ds.length (by omega) (by
    refine log2_lt (k := 9000) ?_ (by decide)
    have : (ds.length : Int).natAbs = ds.length := by omega
    rw [this]
    exact Nat.lt_of_le_of_lt h1 (by decide))
  have hlt := s.one_lt h0
  have hix : pyIx (.list ds) (.int (s.draw ds.length).1) = some (ds.getD (s.one ds.length).1 .none) := by
    have e : (s.draw ds.length).1 = ((s.one ds.length).1 : Int) := by
      have h1 := s.draw_nn (t := (ds.length : Int)) (by omega)
      show (s.draw ds.length).1 = ((s.draw ds.length).1.toNat : Int)
      omega
    rw [e]
    show atI ds _ = _
    refine atI_nat ?_
    rw [List.getD_eq_getElem?_getD, List.getElem?_eq_getElem hlt]
    rfl
  unfold FOne runF bOne
  simp [slots, ht, hix, backs, backAt]
  rfl

/-! ### the loop over the cells -/
/-- the slots: the script, all others may be given another content -/
def Free (n : Nat) (ns : List Int) (env : En) : Prop := env.length = n ∧ env[0]? = some (some (.sc ns)) ∧ ∀ i, 0 < i → i < n → free? env i = true
theorem loop_free {n : Nat} {ns : List Int} {g : DG} {body : DS} : ∀ (vs : List PyData) (env : En), Free n ns env → (∀ v ∈ vs, ∀ env, Free n ns env → ∃ e1 e2, g v env = some e1 ∧ body e1 = .nx e2 ∧ Free n ns e2) → ∃ e2, loopF g body vs env = .nx e2 ∧ Free n ns e2
  | [], env, h, _ => ⟨env, rfl, h⟩
  | v :: vs, env, h, hb => by
    obtain ⟨e1, e2, h1, h2, h3⟩ := hb v (by simp) env h
    obtain ⟨e3, h4, h5⟩ := loop_free vs e2 h3 fun w hw => hb w (by simp [hw])
    refine ⟨e3, ?_, h5⟩
    show Out.ofS (g v env) _ = _
    rw [h1]
    show (match body e1 with
      | .nx e2 => loopF g body vs e2
      | .ct e2 => loopF g body vs e2
      | .bk e2 => .nx e2
      | o => o) = _
    rw [h2]
    exact h4
theorem cells {ns : List Int} {m : Int} (hm : 0 ≤ m) (hm2 : m ≤ 1000) : rng1 [.int (if m > 1 then m else 1)] = some (rng 0 (max 1 m.toNat)) := by
  have h1 : -(2 ^ 62) ≤ (if m > 1 then m else 1) ∧ (if m > 1 then m else 1) < (2 ^ 62 : Int) := by
    split <;> omega
  show (if -(2 ^ 62) ≤ (if m > 1 then m else 1) ∧ (if m > 1 then m else 1) < (2 ^ 62 : Int) then some (rng 0 (if m > 1 then m else 1).toNat) else none) = _
  rw [if_pos h1]
  congr 2
  split <;> omega
end TL

/-! TL18: of which sort a value is. -/
namespace TL
open PySem PySem.Spec PyProof.Rows L2
@[simp] theorem isA_int_none  : isA "int" .none = some false := by
  show kitB "NoneType" "int" = _
  decide +kernel
@[simp] theorem isA_int_bool (b : Bool) : isA "int" (.bool b) = some true := by
  show kitB "bool" "int" = _
  decide +kernel
@[simp] theorem isA_int_int (n : Int) : isA "int" (.int n) = some true := by
  show kitB "int" "int" = _
  decide +kernel
@[simp] theorem isA_int_str (s : Str) : isA "int" (.str s) = some false := by
  show kitB "str" "int" = _
  decide +kernel
@[simp] theorem isA_int_list (ds : List PyData) : isA "int" (.list ds) = some false := by
  show kitB "list" "int" = _
  decide +kernel
@[simp] theorem isA_int_tuple (ds : List PyData) : isA "int" (.tuple ds) = some false := by
  show kitB "tuple" "int" = _
  decide +kernel
@[simp] theorem isA_bool_none  : isA "bool" .none = some false := by
  show kitB "NoneType" "bool" = _
  decide +kernel
@[simp] theorem isA_bool_bool (b : Bool) : isA "bool" (.bool b) = some true := by
  show kitB "bool" "bool" = _
  decide +kernel
@[simp] theorem isA_bool_int (n : Int) : isA "bool" (.int n) = some false := by
  show kitB "int" "bool" = _
  decide +kernel
@[simp] theorem isA_bool_str (s : Str) : isA "bool" (.str s) = some false := by
  show kitB "str" "bool" = _
  decide +kernel
@[simp] theorem isA_bool_list (ds : List PyData) : isA "bool" (.list ds) = some false := by
  show kitB "list" "bool" = _
  decide +kernel
@[simp] theorem isA_bool_tuple (ds : List PyData) : isA "bool" (.tuple ds) = some false := by
  show kitB "tuple" "bool" = _
  decide +kernel
@[simp] theorem isA_tuple_none  : isA "tuple" .none = some false := by
  show kitB "NoneType" "tuple" = _
  decide +kernel
@[simp] theorem isA_tuple_bool (b : Bool) : isA "tuple" (.bool b) = some false := by
  show kitB "bool" "tuple" = _
  decide +kernel
@[simp] theorem isA_tuple_int (n : Int) : isA "tuple" (.int n) = some false := by
  show kitB "int" "tuple" = _
  decide +kernel
@[simp] theorem isA_tuple_str (s : Str) : isA "tuple" (.str s) = some false := by
  show kitB "str" "tuple" = _
  decide +kernel
@[simp] theorem isA_tuple_list (ds : List PyData) : isA "tuple" (.list ds) = some false := by
  show kitB "list" "tuple" = _
  decide +kernel
@[simp] theorem isA_tuple_tuple (ds : List PyData) : isA "tuple" (.tuple ds) = some true := by
  show kitB "tuple" "tuple" = _
  decide +kernel
@[simp] theorem isA_list_none  : isA "list" .none = some false := by
  show kitB "NoneType" "list" = _
  decide +kernel
@[simp] theorem isA_list_bool (b : Bool) : isA "list" (.bool b) = some false := by
  show kitB "bool" "list" = _
  decide +kernel
@[simp] theorem isA_list_int (n : Int) : isA "list" (.int n) = some false := by
  show kitB "int" "list" = _
  decide +kernel
@[simp] theorem isA_list_str (s : Str) : isA "list" (.str s) = some false := by
  show kitB "str" "list" = _
  decide +kernel
@[simp] theorem isA_list_list (ds : List PyData) : isA "list" (.list ds) = some true := by
  show kitB "list" "list" = _
  decide +kernel
@[simp] theorem isA_list_tuple (ds : List PyData) : isA "list" (.tuple ds) = some false := by
  show kitB "tuple" "list" = _
  decide +kernel
@[simp] theorem isA_str_none  : isA "str" .none = some false := by
  show kitB "NoneType" "str" = _
  decide +kernel
@[simp] theorem isA_str_bool (b : Bool) : isA "str" (.bool b) = some false := by
  show kitB "bool" "str" = _
  decide +kernel
@[simp] theorem isA_str_int (n : Int) : isA "str" (.int n) = some false := by
  show kitB "int" "str" = _
  decide +kernel
@[simp] theorem isA_str_str (s : Str) : isA "str" (.str s) = some true := by
  show kitB "str" "str" = _
  decide +kernel
@[simp] theorem isA_str_list (ds : List PyData) : isA "str" (.list ds) = some false := by
  show kitB "list" "str" = _
  decide +kernel
@[simp] theorem isA_str_tuple (ds : List PyData) : isA "str" (.tuple ds) = some false := by
  show kitB "tuple" "str" = _
  decide +kernel
instance (k : Nat) (n : Int) : Decidable (Sz k n) := inferInstanceAs (Decidable (_ < _))
@[simp] theorem handle_yes {catches : Str → Option Bool} {i : Nat} {su : DXS} {c : Str} {fs : List (Str × PyData)} {env : En} (h : catches c = some true) (hf : free? env i = true) : handle catches i su c fs env = caught i (su c fs (env.set i none)) := by
  unfold handle
  rw [h]
  simp [hf]
theorem try_ok {catches : Str → Option Bool} {i : Nat} {body : DS} {su : DXS} {env e1 : En} {v : PyData} (h : body env = .rt v e1) : dTry catches i body su env = .rt v e1 := by
  unfold dTry
  rw [h]
theorem try_nx {catches : Str → Option Bool} {i : Nat} {body : DS} {su : DXS} {env e1 : En} (h : body env = .nx e1) : dTry catches i body su env = .nx e1 := by
  unfold dTry
  rw [h]
theorem try_ex {catches : Str → Option Bool} {i : Nat} {body : DS} {su : DXS} {env e1 : En} {c : Str} {fs : List (Str × PyData)} (h : body env = .ex c fs e1) : dTry catches i body su env = handle catches i su c fs e1 := by
  unfold dTry
  rw [h]
theorem eq_same {v : PyData} (h : SeqAt.shaped v = true) : pyEq v v = some (.bool true) := by
  unfold pyEq
  rw [if_pos ⟨h, h⟩, SeqAt.eqv_refl v (Bool.and_eq_true_iff.mp h).1]
theorem ne_same {v : PyData} (h : SeqAt.shaped v = true) : pyNe v v = some (.bool false) := by
  unfold pyNe
  rw [if_pos ⟨h, h⟩, SeqAt.eqv_refl v (Bool.and_eq_true_iff.mp h).1]
  rfl
theorem shp_is (p q : Int) : SeqAt.shaped (.tuple [.str "is", .tuple [.int p, .int q]]) = true := by
  simp [SeqAt.shaped, PyData.canLay0, PyData.canLayAll0, PyData.depth, PyData.depthAll]
  try decide +kernel
theorem shp_pair (p q : Int) : SeqAt.shaped (.tuple [.int p, .int q]) = true := by
  simp [SeqAt.shaped, PyData.canLay0, PyData.canLayAll0, PyData.depth, PyData.depthAll]
  try decide +kernel
theorem shp_no (n : Int) : SeqAt.shaped (.tuple [.str "none", .int n, .bool true]) = true := by
  simp [SeqAt.shaped, PyData.canLay0, PyData.canLayAll0, PyData.depth, PyData.depthAll]
  try decide +kernel
theorem loop_step {g : DG} {b : DS} {v : PyData} {vs : List PyData} {env e1 e2 : En} (h1 : g v env = some e1) (h2 : b e1 = .nx e2) : loopF g b (v :: vs) env = loopF g b vs e2 := by
  show Out.ofS (g v env) _ = _
  rw [h1]
  show (match b e1 with
    | .nx e2 => loopF g b vs e2
    | .ct e2 => loopF g b vs e2
    | .bk e2 => .nx e2
    | o => o) = _
  rw [h2]
end TL

/-! TL19: list comprehensions. -/
namespace TL
open PySem PySem.Spec PyProof.Rows L2
/-! ### what is gone over, whatever comes -/
def WkG (K : PySem.W.Frag) (J : It) (O : Addr → Prop) (H : Hp) (items : List PyData) : Prop :=
  ∀ O2 H2, Goes K O H O2 H2 → ∀ i : Nat, (∀ d, items[i]? = some d → J.go i H2 ∧ ∀ x H3, J.yld i H2 x H3 → H3 = H2 ∧ Rp K O2 H2 d x) ∧ (items.length ≤ i → J.stop i H2)
def tIG (Y : Pm) (d : DL) : TI := fun σ H R => ∃ env, Ok Y.K Y.O0 env σ H ∧ EndE Y env σ H (fun items env' H' => ∀ J, WkG Y.K J (Al Y.O0 env' σ) H' items → R J H') (d env)
def DIG (X : Cx) (W : WX) (tg iter : Expr) (d : DL) : Prop := ∀ O0, PI X tg iter (tIG (Cx.pm X W O0) d)
section
variable {X : Cx} {W : WX} {k : Nat} {tg iter e a b c : Expr} {d da db dc : D} {dl : DL} {pos p : Pos} {x y : Str}
theorem dig_list (h : DE X W e d) : DIG X W tg e (dIt itemsL d) := fun O0 =>
  PI.imp (pi_list (h O0)) fun σ H R ⟨env, ok, q⟩ => ⟨env, ok, EndE.bind q fun v e1 H1 s1 q1 p rp => by
    obtain ⟨ds, hd, q2⟩ := EndE.of q1
    cases rp with
    | @lst l ps _ h1 h2 h3 =>
      cases hd
      refine ⟨_, rfl, ⟨_, .inl (.inl h1)⟩, q2 H1 (StpE.refl s1.ok) _ fun O2 H2 g i => ?_⟩
      have l2 : SqL X.K H2 l ps := .inl (.inl (g.1 _ _ h1 h2).1)
      have r2 := Rps.goes g _ _ h3
      refine ⟨fun d hd => ?_, fun hi => ⟨ps, l2, by rw [← r2.length]; exact hi⟩⟩
      obtain ⟨v, hv, rv⟩ := r2.get hd
      exact ⟨⟨ps, v, l2, hv⟩, fun x H3 ⟨e1, e2⟩ => by
        have := e2 ps l2
        rw [hv] at this
        cases this
        exact ⟨e1, rv⟩⟩
    | _ => cases hd⟩
theorem dig_tup (h : DE X W e d) : DIG X W tg e (dIt itemsT d) := fun O0 =>
  PI.imp (pi_tup (h O0)) fun σ H R ⟨env, ok, q⟩ => ⟨env, ok, EndE.bind q fun v e1 H1 s1 q1 p rp => by
    obtain ⟨ds, hd, q2⟩ := EndE.of q1
    cases rp with
    | @tup l ps _ h1 h3 =>
      cases hd
      refine ⟨_, rfl, ⟨_, h1⟩, q2 H1 (StpE.refl s1.ok) _ fun O2 H2 g i => ?_⟩
      have l2 : SqT X.K H2 l ps := g.2 _ _ h1
      have r2 := Rps.goes g _ _ h3
      refine ⟨fun d hd => ?_, fun hi => ⟨ps, l2, by rw [← r2.length]; exact hi⟩⟩
      obtain ⟨v, hv, rv⟩ := r2.get hd
      exact ⟨⟨ps, v, l2, hv⟩, fun x H3 ⟨e1, e2⟩ => by
        have := e2 ps l2
        rw [hv] at this
        cases this
        exact ⟨e1, rv⟩⟩
    | _ => cases hd⟩
theorem wkg_rng {K : PySem.W.Frag} {O : Addr → Prop} {H : Hp} {lo : Int} {n : Nat} : WkG K (Itr lo n) O H (rng lo n) := fun O2 H2 g i =>
  ⟨fun d hd => by
    obtain ⟨hi, rfl⟩ := rng_get hd
    exact ⟨hi, fun x H3 ⟨e1, e2⟩ => by
      subst e2
      exact ⟨e1, .int _⟩⟩, fun hi => by
    unfold rng at hi
    rw [List.length_map, List.length_range] at hi
    exact hi⟩
theorem dig_range1 (hm : X.mg "range" = none) (ha : DAs X W [a] (dArgs [da])) (hg : Gl X "range" := by rfl) (hs : starEach [a] X.env = [(false, eval a X.env)] := by rfl) : DIG X W tg (.Call (.Name "range" p) [a] [] pos) (dItA rng1 [da]) := fun O0 =>
  PI.imp (pi_range1 hg hm (ha O0) hs) fun σ H R ⟨env, ok, q⟩ => ⟨env, ok, EndE.bind q fun vs e1 H1 s1 q1 ps rps => by
    obtain ⟨ds, hd, q2⟩ := EndE.of q1
    clear q1
    unfold rng1 at hd
    split at hd
    · split at hd
      · rename_i hb
        cases hd
        cases rps with
        | cons r1 r2 =>
        cases r1
        cases r2
        exact ⟨_, rfl, hb.1, hb.2, q2 H1 (StpE.refl s1.ok) _ wkg_rng⟩
      · cases hd
    · cases hd⟩
theorem dig_range2 (hm : X.mg "range" = none) (ha : DAs X W [a, b] (dArgs [da, db])) (hg : Gl X "range" := by rfl) (hs : starEach [a, b] X.env = [(false, eval a X.env), (false, eval b X.env)] := by rfl) (hs2 : starEach [b] X.env = [(false, eval b X.env)] := by rfl) : DIG X W tg (.Call (.Name "range" p) [a, b] [] pos) (dItA rng2 [da, db]) := fun O0 =>
  PI.imp (pi_range2 hg hm (ha O0) hs hs2) fun σ H R ⟨env, ok, q⟩ => ⟨env, ok, EndE.bind q fun vs e1 H1 s1 q1 ps rps => by
    obtain ⟨ds, hd, q2⟩ := EndE.of q1
    clear q1
    unfold rng2 at hd
    split at hd
    · split at hd
      · rename_i hb
        cases hd
        cases rps with
        | cons r1 r2 =>
        cases r1
        cases r2 with
        | cons r3 r4 =>
        cases r3
        cases r4
        exact ⟨_, _, rfl, hb, q2 H1 (StpE.refl s1.ok) _ wkg_rng⟩
      · cases hd
    · cases hd⟩
/-! ### targets that lie among some slots -/
def tGv (Y : Pm) (ws : List Nat) (g : DG) : TG := fun p σ H Q => ∃ env v env', Ok Y.K Y.O0 env σ H ∧ Rp Y.K (Al Y.O0 env σ) H v p ∧ g v env = some env' ∧ ∀ σ' H', Stp Y.K Y.O0 env σ H env' σ' H' → wipe σ' ws = wipe σ ws → (∀ a, Own env' σ' a → Own env σ a) → Q σ' H'
def tGvs (Y : Pm) (ws : List Nat) (g : List PyData → En → Option En) : TGs := fun ps σ H Q => ∃ env vs env', Ok Y.K Y.O0 env σ H ∧ Rps Y.K (Al Y.O0 env σ) H vs ps ∧ g vs env = some env' ∧ ∀ σ' H', Stp Y.K Y.O0 env σ H env' σ' H' → wipe σ' ws = wipe σ ws → (∀ a, Own env' σ' a → Own env σ a) → Q σ' H'
def DGv (X : Cx) (ws : List Nat) (tg : Expr) (g : DG) : Prop := ∀ Y : Pm, Y.K = X.K → PG X tg (tGv Y ws g)
def DGvs (X : Cx) (ws : List Nat) (tgs : List Expr) (g : List PyData → En → Option En) : Prop := ∀ Y : Pm, Y.K = X.K → PGs X tgs (tGvs Y ws g)
theorem wipe_set {σ : L2.St} {i : Nat} {z : Option V} : ∀ {ws : List Nat}, i ∈ ws → wipe (σ.set i z) ws = wipe σ ws
  | w :: ws, h => by
    unfold wipe
    by_cases hi : i ∈ ws
    · rw [wipe_set hi]
    · have hw : w = i := ((List.mem_cons.mp h).resolve_right hi).symm
      subst hw
      have : ∀ (us : List Nat) (τ : L2.St), w ∉ us → (wipe (τ.set w z) us).set w none = (wipe τ us).set w none := fun us τ => by
        induction us with
        | nil => intro _; unfold wipe; rw [List.set_set]
        | cons u us ih =>
          intro hu
          have h1 : u ≠ w := fun e => hu (by rw [e]; exact List.mem_cons_self)
          have h2 : w ∉ us := fun m => hu (List.mem_cons_of_mem _ m)
          unfold wipe
          rw [List.set_comm _ _ h1, ih h2, List.set_comm _ _ h1]
      exact this ws σ hi
theorem dgv_name {ws : List Nat} {i : Nat} (h : PG X (.Name x pos) (gName i)) (hi : i ∈ ws) : DGv X ws (.Name x pos) (gNm i) := fun Y hY => PG.imp h fun p σ H Q ⟨env, v, env', ok, r, e, q⟩ => by
  obtain ⟨hf, rfl⟩ := setPv_free e
  exact q _ _ (Stp.setPv ok hf r) (wipe_set hi) fun a h => by
    rcases set_own h with ⟨m, _, _⟩ | ⟨j, t, _, h1, h2, h3⟩
    · cases m
    · exact ⟨j, t, h1, h2, h3⟩
theorem dgvs_nil {ws : List Nat} : DGvs X ws [] gs0 := fun Y hY => PGs.imp pgs_nil fun ps σ H Q ⟨env, vs, env', ok, r, e, q⟩ => by
  unfold gs0 at e
  split at e
  · cases e
    cases r
    exact ⟨rfl, q σ H (Stp.refl ok) rfl fun _ z => z⟩
  · cases e
theorem dgvs_cons {ws : List Nat} {es : List Expr} {g : DG} {r : List PyData → En → Option En} (h1 : DGv X ws e g) (h2 : DGvs X ws es r) (hs : (assignEach (e :: es) X.env).map (·.2) = assign e X.env :: (assignEach es X.env).map (·.2) := by rfl) : DGvs X ws (e :: es) (gsC g r) := fun Y hY =>
  PGs.imp (pgs_cons (h1 Y hY) (h2 Y hY) hs) fun ps σ H Q ⟨env, vs, env', ok, rp, e, q⟩ => by
    unfold gsC at e
    split at e
    · rename_i v vs'
      cases rp with
      | cons r1 r2 =>
      cases hg : g v env with
      | none => rw [hg] at e; cases e
      | some e1 =>
        rw [hg] at e
        exact ⟨_, _, rfl, env, v, e1, ok, r1, hg, fun σ' H' s w1 o1 => ⟨e1, vs', env', s.ok, s.rps ok r2, e, fun σ2 H2 s2 w2 o2 => q σ2 H2 (s.trans s2) (w2.trans w1) fun a z => o1 a (o2 a z)⟩⟩
    · cases e
theorem dgv_tup {ws : List Nat} {es : List Expr} {kk : Nat} {r : List PyData → En → Option En} {n : Nat} (hc : X.calm = true) (h : DGvs X ws es r) (hn : (assignEach es X.env).length = n := by rfl) (hst : (assignEach es X.env).findIdx? (·.1) = none := by rfl) : DGv X ws (.Tuple es kk pos) (gTp n r) := fun Y hY =>
  PG.imp (pg_tup hc (h Y hY) hn hst) fun p σ H Q ⟨env, v, env', ok, rp, e, q⟩ => by
    unfold gTp at e
    split at e
    · split at e
      · cases rp with
        | tup h1 h2 => exact ⟨_, _, rfl, by rw [← hY]; exact h1, by rw [← h2.length]; assumption, env, _, env', ok, h2, e, q⟩
      · cases e
    · cases e
end
end TL

/-! TL20: list comprehensions: the rule. -/
namespace TL
open PySem PySem.Spec PyProof.Rows L2
def wipeE (env : En) : List Nat → En
  | [] => env
  | v :: vs => (wipeE env vs).set v none
theorem wipeE_len (env : En) : ∀ vs : List Nat, (wipeE env vs).length = env.length
  | [] => rfl
  | v :: vs => by unfold wipeE; rw [List.length_set, wipeE_len env vs]
theorem wipeE_some {env : En} {i : Nat} {s : Sl} : ∀ {vs : List Nat}, (wipeE env vs)[i]? = some (some s) → env[i]? = some (some s) ∧ i ∉ vs
  | [], h => ⟨h, by simp⟩
  | v :: vs, h => by
    unfold wipeE at h
    rcases get_set h with ⟨_, h2⟩ | ⟨h1, h2⟩
    · cases h2
    · obtain ⟨h3, h4⟩ := wipeE_some h2
      exact ⟨h3, by simp only [List.mem_cons, not_or]; exact ⟨fun e => h1 e.symm, h4⟩⟩
theorem wipeE_out {env : En} {i : Nat} : ∀ {vs : List Nat}, i ∉ vs → (wipeE env vs)[i]? = env[i]?
  | [], _ => rfl
  | v :: vs, h => by
    have h1 : v ≠ i := fun e => h (by rw [e]; exact List.mem_cons_self)
    unfold wipeE
    rw [List.getElem?_set_ne h1]
    exact wipeE_out fun m => h (List.mem_cons_of_mem _ m)
def pvAt (env : En) (i : Nat) : Bool := match env[i]? with
  | some none => true
  | some (some (.pv _)) => true
  | _ => false
def pvsAt (env : En) (vs : List Nat) : Bool := vs.all (pvAt env)
theorem pvsAt_mut {env : En} {vs : List Nat} (h : pvsAt env vs = true) {i : Nat} {s : Sl} (e : env[i]? = some (some s)) (m : s.mut = true ∨ ∃ ds, s = .io ds) : i ∉ vs := fun hi => by
  have := List.all_eq_true.mp h i hi
  unfold pvAt at this
  rw [e] at this
  cases s with
  | pv d => rcases m with m | ⟨ds, m⟩ <;> cases m
  | _ => cases this
def backE (e1 en : En) (vs : List Nat) : En := en.mapIdx fun i s => if i ∈ vs then e1[i]?.getD none else s
theorem backE_get {e1 en : En} {vs : List Nat} {i : Nat} {s : Sl} (h : (backE e1 en vs)[i]? = some (some s)) : (i ∈ vs ∧ e1[i]? = some (some s)) ∨ (i ∉ vs ∧ en[i]? = some (some s)) := by
  unfold backE at h
  rw [List.getElem?_mapIdx] at h
  cases he : en[i]? with
  | none => rw [he] at h; cases h
  | some x =>
    rw [he] at h
    by_cases hi : i ∈ vs
    · simp only [Option.map_some, hi, if_true] at h
      refine .inl ⟨hi, ?_⟩
      cases h1 : e1[i]? with
      | none => rw [h1] at h; cases h
      | some y => rw [h1] at h; exact h
    · simp only [Option.map_some, hi, if_false] at h
      exact .inr ⟨hi, by rw [← he] at *; rw [he]; exact h⟩
def Out.nox {α : Type} : Out α → Out α
  | .ok a => .ok a
  | _ => .stuck
/-- the turns of a block -/
def lcF (g : DG) (t : DT) (d : D) (vs : List Nat) : List PyData → List PyData → En → Out (List PyData × En)
  | [], acc, env => .ok (acc, env)
  | v :: rest, acc, env => (Out.of (g v env)).bind fun e1 => (t e1).bind fun (b, e2) => if b = true then (d e2).bind fun (y, e3) => if acc.length < sizeLine then lcF g t d vs rest (acc ++ [y]) (wipeE e3 vs) else .stuck
      else lcF g t d vs rest acc (wipeE e2 vs)
def dLc (items : DL) (g : DG) (t : DT) (d : D) (vs : List Nat) : DL := fun env => (items env).bind fun (its, e1) => if pvsAt e1 vs = true then (Out.nox (lcF g t d vs its [] (wipeE e1 vs))).bind fun (ds, en) => .ok (ds, backE e1 en vs) else .stuck
def dYes : DT := fun env => .ok (true, env)

section
variable {K : PySem.W.Frag} {O0 : Addr → Prop} {env e1 e2 : En} {σ σ1 σ2 : L2.St} {H H1 H2 : Hp} {D : Addr} {ds : List PyData} {ps : List V} {vs : List Nat}
theorem own_wipe {a : Addr} (h : Own (wipeE env vs) (wipe σ vs) a) : Own env σ a := by
  obtain ⟨i, s, e, m, es⟩ := h
  obtain ⟨e', hi⟩ := wipeE_some e
  exact ⟨i, s, e', m, (wipe_some es).1⟩
theorem Ok.wipe (ok : Ok K O0 env σ H) : Ok K O0 (wipeE env vs) (wipe σ vs) H where
  len := by rw [wipeE_len, wipe_length]; exact ok.len
  val := fun i s e => by
    obtain ⟨e', hi⟩ := wipeE_some e
    obtain ⟨v, ev, r⟩ := ok.val i s e'
    exact ⟨v, by rw [wipe_out hi]; exact ev, RS.shrink (fun a z => z.elim .inl fun z => .inr (own_wipe z)) r⟩
  inj := fun i j s t a h1 m1 h2 m2 h3 h4 => ok.inj i j s t a (wipeE_some h1).1 m1 (wipeE_some h2).1 m2 (wipe_some h3).1 (wipe_some h4).1
  lst := ok.lst
  dis := fun a h => ok.dis a (own_wipe h)
theorem Ok.weak (ok : Ok K (With O0 D) env σ H) : Ok K O0 env σ H where
  len := ok.len
  val := fun i s e => by
    obtain ⟨v, ev, r⟩ := ok.val i s e
    exact ⟨v, ev, RS.shrink (fun a z => z.elim (fun z => .inl (.inl z)) .inr) r⟩
  inj := ok.inj
  lst := fun a h => ok.lst a (.inl h)
  dis := fun a h z => ok.dis a h (.inl z)
/-- the list in the making gets longer -/
theorem Goes.grow {O : Addr → Prop} {qs : List V} (hO : O D) (hD : H D = some (.lst ps)) : Goes K O H O (upd H D (.lst qs)) :=
  ⟨fun a xs h n => ⟨by rw [upd_ne (fun z => n (by rw [z]; exact hO) : a ≠ D)]; exact h, n⟩, fun a xs h => by
    have ne : ∀ o, H a = some o → (∀ ys, o ≠ .lst ys) → a ≠ D := fun o e n z => by
      subst z
      rw [hD] at e
      cases e
      exact n _ rfl
    rcases h with (h | ⟨o, h⟩) | h
    · exact .inl (.inl (by rw [upd_ne (ne _ h fun ys z => by cases z)]; exact h))
    · exact .inl (.inr ⟨o, by rw [upd_ne (ne _ h fun ys z => by cases z)]; exact h⟩)
    · exact .inr h⟩
theorem Ok.grow {qs : List V} (ok : Ok K (With O0 D) env σ H) (hD : H D = some (.lst ps)) : Ok K (With O0 D) env σ (upd H D (.lst qs)) :=
  ok.goes (Goes.grow (.inl (.inr rfl)) hD) (fun a xs h e => by rw [upd_ne (fun z => ok.dis a h (.inr z) : a ≠ D)]; exact e)
    (fun a ns h => by
      rcases h with ⟨o, h⟩ | h
      · exact .inl ⟨o, by
          have ne : a ≠ D := fun z => by
            rw [z, hD] at h
            cases h
          rw [upd_ne ne]
          exact h⟩
      · exact .inr h)
    (fun a h => by
      by_cases z : a = D
      · subst z
        exact ⟨qs, upd_same⟩
      · rw [upd_ne z]
        exact ok.lst a h) ok.dis
theorem wipe_idem : ∀ {ws : List Nat} {σ : L2.St}, L2.wipe (L2.wipe σ ws) ws = L2.wipe σ ws := fun {ws σ} => by
  refine List.ext_getElem? fun i => ?_
  by_cases hi : i ∈ ws
  · have h : ∀ τ : L2.St, (L2.wipe τ ws)[i]? = if i < τ.length then some none else none := fun τ => by
      split
      · rename_i hl
        cases h : (L2.wipe τ ws)[i]? with
        | none => rw [List.getElem?_eq_none_iff, wipe_length] at h; omega
        | some y =>
          cases y with
          | none => rfl
          | some z => exact absurd hi (wipe_some h).2
      · rename_i hl
        rw [List.getElem?_eq_none]
        rw [wipe_length]
        omega
    rw [h, h, wipe_length]
  · rw [wipe_out hi]
/-- a step in a block, but for the list in the making -/
structure StpD (K : PySem.W.Frag) (O1 : Addr → Prop) (D : Addr) (env : En) (σ : L2.St) (H : Hp) (env' : En) (H' : Hp) : Prop where
  ok : Ok K O1 env' σ H'
  keep : ∀ a o, a ≠ D → H a = some o → ¬ Own env σ a → H' a = some o
  dom : ∀ a, H a ≠ none → H' a ≠ none
  le : ∀ a, Own env' σ a → Own env σ a
  io : ∀ (i : Nat) (ds : List PyData), env[i]? = some (some (Sl.io ds)) → ∃ ds', env'[i]? = some (some (Sl.io ds'))
theorem no_dom (h : ∀ a, H a ≠ none → H1 a ≠ none) {a : Addr} (z : H1 a = none) : H a = none := by
  cases q : H a with
  | none => rfl
  | some o => exact absurd z (h a (by rw [q]; intro z; cases z))
/-- a turn, wiped -/
theorem StpD.turn {e0 : En} {H0 : Hp} (S : StpD K (With O0 D) D (wipeE e0 vs) (L2.wipe σ vs) H0 e1 H1) (T : Stp K (With O0 D) e1 (L2.wipe σ vs) H1 e2 σ2 H2) (hw : L2.wipe σ2 vs = L2.wipe σ vs) (ho : ∀ a, Own e2 σ2 a → Own e1 (L2.wipe σ vs) a) :
    StpD K (With O0 D) D (wipeE e0 vs) (L2.wipe σ vs) H0 (wipeE e2 vs) H2 where
  ok := by
    rw [← hw]
    exact T.ok.wipe
  keep := fun a o n h1 h2 => T.keep a o (S.keep a o n h1 h2) fun z => h2 (S.le a z)
  dom := fun a h => T.dom a (S.dom a h)
  le := fun a h => by
    rw [← hw] at h
    exact S.le a (ho a (own_wipe h))
  io := fun i ds h => by
    obtain ⟨d1, h1⟩ := S.io i ds h
    obtain ⟨⟨d2, h2⟩, _⟩ := T.io i d1 h1
    exact ⟨d2, by rw [wipeE_out (wipeE_some h).2]; exact h2⟩
theorem StpD.grow {e0 : En} {H0 : Hp} {qs : List V} (S : StpD K (With O0 D) D (wipeE e0 vs) (L2.wipe σ vs) H0 e1 H1) (hD : H1 D = some (.lst ps)) : StpD K (With O0 D) D (wipeE e0 vs) (L2.wipe σ vs) H0 e1 (upd H1 D (.lst qs)) where
  ok := S.ok.grow hD
  keep := fun a o n h1 h2 => by
    rw [upd_ne n]
    exact S.keep a o n h1 h2
  dom := fun a h => by
    by_cases z : a = D
    · subst z
      rw [upd_same]
      intro z
      cases z
    · rw [upd_ne z]
      exact S.dom a h
  le := S.le
  io := S.io
/-- what was there ahead of the block is as it was -/
theorem StpD.goes (ok : Ok K O0 e1 σ H1) (hD : H1 D = none) (S : StpD K (With O0 D) D (wipeE e1 vs) (L2.wipe σ vs) (upd H1 D (.lst [])) e2 H2) : Goes K (Al O0 e1 σ) H1 (Al (With O0 D) e2 (L2.wipe σ vs)) H2 :=
  ⟨fun a xs h n => by
    have ne : a ≠ D := ne_of_none h hD
    have h' : upd H1 D (.lst []) a = some (.lst xs) := by rw [upd_ne ne]; exact h
    refine ⟨S.keep a _ ne h' fun z => n (.inr (own_wipe z)), fun z => ?_⟩
    rcases z with (z | z) | z
    · exact n (.inl z)
    · exact ne z
    · exact n (.inr (own_wipe (S.le a z))), fun a xs h => by
    have go : ∀ o, H1 a = some o → (∀ ys, o ≠ .lst ys) → H2 a = some o := fun o e nl => by
      have ne : a ≠ D := ne_of_none e hD
      refine S.keep a _ ne (by rw [upd_ne ne]; exact e) fun z => ?_
      obtain ⟨ys, ey⟩ := ok.own (own_wipe z)
      rw [e] at ey
      cases ey
      exact nl _ rfl
    rcases h with (h | ⟨o, h⟩) | h
    · exact .inl (.inl (go _ h fun ys z => by cases z))
    · exact .inl (.inr ⟨o, go _ h fun ys z => by cases z⟩)
    · exact .inr h⟩
/-- behind the block -/
theorem back_own (h : pvsAt e1 vs = true) {a : Addr} (o : Own (backE e1 e2 vs) σ a) : Own e2 (L2.wipe σ vs) a := by
  obtain ⟨i, s, e, m, es⟩ := o
  rcases backE_get e with ⟨hi, e'⟩ | ⟨hi, e'⟩
  · exact absurd hi (pvsAt_mut h e' (.inl m))
  · exact ⟨i, s, e', m, by rw [wipe_out hi]; exact es⟩
theorem back_ok (h : pvsAt e1 vs = true) (ok : Ok K O0 e1 σ H1) (hD : H1 D = none) (S : StpD K (With O0 D) D (wipeE e1 vs) (L2.wipe σ vs) (upd H1 D (.lst [])) e2 H2) : Ok K (With O0 D) (backE e1 e2 vs) σ H2 where
  len := by
    unfold backE
    rw [List.length_mapIdx, S.ok.len, wipe_length]
  val := fun i s e => by
    rcases backE_get e with ⟨hi, e'⟩ | ⟨hi, e'⟩
    · obtain ⟨v, ev, r⟩ := ok.val i s e'
      refine ⟨v, ev, ?_⟩
      have g := StpD.goes ok hD S
      cases s with
      | pv d => exact Rp.goes (Goes.trans g (Goes.shrink fun a z => z.elim .inl fun z => .inr (back_own h z))) _ _ r
      | ow ds => exact absurd hi (pvsAt_mut h e' (.inl rfl))
      | io ds => exact absurd hi (pvsAt_mut h e' (.inl rfl))
      | sc ns =>
        have := List.all_eq_true.mp h i hi
        unfold pvAt at this
        rw [e'] at this
        cases this
    · obtain ⟨v, ev, r⟩ := S.ok.val i s e'
      exact ⟨v, by rw [wipe_out hi] at ev; exact ev, RS.shrink (fun a z => z.elim .inl fun z => .inr (back_own h z)) r⟩
  inj := fun i j s t a h1 m1 h2 m2 h3 h4 => by
    rcases backE_get h1 with ⟨hi, e'⟩ | ⟨hi, e1'⟩
    · exact absurd hi (pvsAt_mut h e' (.inl m1))
    · rcases backE_get h2 with ⟨hj, e'⟩ | ⟨hj, e2'⟩
      · exact absurd hj (pvsAt_mut h e' (.inl m2))
      · exact S.ok.inj i j s t a e1' m1 e2' m2 (by rw [wipe_out hi]; exact h3) (by rw [wipe_out hj]; exact h4)
  lst := S.ok.lst
  dis := fun a z => S.ok.dis a (back_own h z)
theorem back_stp (h : pvsAt e1 vs = true) (ok : Ok K O0 e1 σ H1) (hD : H1 D = none) (S : StpD K (With O0 D) D (wipeE e1 vs) (L2.wipe σ vs) (upd H1 D (.lst [])) e2 H2) : StpE K O0 e1 σ H1 (backE e1 e2 vs) H2 where
  ok := (back_ok h ok hD S).weak
  keep := fun a o e n => by
    have ne : a ≠ D := ne_of_none e hD
    exact S.keep a o ne (by rw [upd_ne ne]; exact e) fun z => n (own_wipe z)
  dom := fun a e => S.dom a fun z => by
    by_cases q : a = D
    · subst q
      rw [upd_same] at z
      cases z
    · rw [upd_ne q] at z
      exact e z
  le := fun a z => own_wipe (S.le a (back_own h z))
  io := fun i ds e => by
    have hi := pvsAt_mut h e (.inl rfl)
    obtain ⟨d', e'⟩ := S.io i ds (by rw [wipeE_out hi]; exact e)
    refine ⟨d', ?_⟩
    unfold backE
    rw [List.getElem?_mapIdx, e']
    simp [hi]
end
end TL

/-! TL21: list comprehensions, the rule itself. -/
namespace TL
open PySem PySem.Spec PyProof.Rows L2
section
variable {X : Cx} {W : WX} {k : Nat}
theorem gd_blk (G : Gd X W k) {s : Shared} {H : Hp} {scope : Scope} {ce : Env} {fp : List Addr} : Gd (X.blk s H scope ce fp) WF k :=
  ⟨G.calm, G.room, fun u s' ⟨a, B, sI, pins, σ, H, cls, d, e, I, nb, up, sky, na, os, ag, w⟩ => w.elim, PassesOwn.never, G.nd⟩
theorem pe_ex {e : Expr} {ι : Type} {t : ι → TE} (h : ∀ o, PE X e (t o)) : PE X e (fun σ H Q => ∃ o, t o σ H Q) := ⟨fun pins s σ H Q I ⟨o, q⟩ => (h o).run pins s σ H Q I q⟩
theorem pg_ex {e : Expr} {ι : Type} {t : ι → TG} (h : ∀ o, PG X e (t o)) : PG X e (fun p σ H Q => ∃ o, t o p σ H Q) := ⟨fun pins s σ H v u Q I r ⟨o, q⟩ => (h o).run pins s σ H v u Q I r q⟩
theorem pts_ex {es : List Expr} {ι : Type} {t : ι → TT} (h : ∀ o, PTs X es (t o)) : PTs X es (fun σ H Q => ∃ o, t o σ H Q) := ⟨fun pins s σ H Q I ⟨o, q⟩ => (h o).run pins s σ H Q I q⟩
def DTs (X : Cx) (ifs : List Expr) (t : DT) : Prop := ∀ O0, PTs X ifs (tT (Cx.pm X WF O0) t)
theorem dts_nil : DTs X [] dYes := fun O0 => ⟨fun pins s σ H Q I ⟨env, ok, q⟩ => pts_nil.run pins s σ H Q I (q H (StpE.refl ok))⟩
theorem dts_one {c : Expr} {t : DT} (h : DTe X WF c t) : DTs X [c] t := fun O0 => pts_one (h O0)
theorem lc_imp {vs : List Nat} {O0 : Addr → Prop} {dl : DL} {g : DG} {t : DT} {d : D} {σ : L2.St} {H : Hp} {Q : VK} (hx : tF (Cx.pm X W O0) (dLc dl g t d vs) σ H Q) :
    tLc (tIG (Cx.pm X W O0) dl) (fun p σ H Q => ∃ O1 : Addr → Prop, tGv ⟨X.K, X.mg, O1, WF⟩ vs g p σ H Q) (fun σ H Q => ∃ O1 : Addr → Prop, tT ⟨X.K, X.mg, O1, WF⟩ t σ H Q) (fun σ H Q => ∃ O1 : Addr → Prop, tD ⟨X.K, X.mg, O1, WF⟩ d σ H Q) vs σ H Q := by
  obtain ⟨env, ok, q⟩ := hx
  refine ⟨env, ok, EndE.bind q fun its e1 H1 s1 q1 J wk D hD => ?_⟩
  dsimp only at q1
  have hp : pvsAt e1 vs = true := Decidable.byContradiction fun hp => by
    rw [if_neg hp] at q1
    exact (show False from q1).elim
  rw [if_pos hp] at q1
  cases hl : lcF g t d vs its [] (wipeE e1 vs) with
  | ex c fs e => rw [hl] at q1; exact (show False from q1).elim
  | stuck => rw [hl] at q1; exact (show False from q1).elim
  | ok r =>
  obtain ⟨dsF, enF⟩ := r
  rw [hl] at q1
  have okw : Ok X.K (With O0 D) (wipeE e1 vs) (L2.wipe σ vs) (upd H1 D (.lst [])) := (Fresh.lay (H0 := H1) s1.ok hD hD .nil).ok.wipe
  refine ⟨fun i m H2 => ∃ env2 acc ps, StpD X.K (With O0 D) D (wipeE e1 vs) (L2.wipe σ vs) (upd H1 D (.lst [])) env2 H2 ∧ H2 D = some (.lst ps) ∧ Rps X.K (Al (With O0 D) env2 (L2.wipe σ vs)) H2 acc ps ∧ i ≤ its.length ∧ m = its.length - i ∧ lcF g t d vs (its.drop i) acc env2 = .ok (dsF, enF),
    ⟨its.length, wipeE e1 vs, [], [], ⟨okw, fun _ _ _ h _ => h, fun _ h => h, fun _ h => h, fun i ds e => ⟨ds, e⟩⟩, upd_same, .nil, Nat.zero_le _, rfl, hl⟩, ?_⟩
  rintro i m H2 ⟨env2, acc, ps, S, hD2, hps, hle, rfl, hf⟩
  have gl := StpD.goes s1.ok hD S
  by_cases hlt : i < its.length
  · obtain ⟨hgo, hy⟩ := (wk _ H2 gl i).1 its[i] (List.getElem?_eq_getElem hlt)
    rw [List.drop_eq_getElem_cons hlt] at hf
    unfold lcF at hf
    cases hgv : g its[i] env2 with
    | none => rw [hgv] at hf; cases hf
    | some e3 =>
    rw [hgv] at hf
    refine .inr ⟨hgo, fun H' => ∃ env2 acc ps, StpD X.K (With O0 D) D (wipeE e1 vs) (L2.wipe σ vs) (upd H1 D (.lst [])) env2 H' ∧ H' D = some (.lst ps) ∧ Rps X.K (Al (With O0 D) env2 (L2.wipe σ vs)) H' acc ps ∧ lcF g t d vs (its.drop (i + 1)) acc env2 = .ok (dsF, enF), fun H' ⟨a1, a2, a3, b1, b2, b3, b4⟩ => ⟨its.length - (i + 1), by omega, a1, a2, a3, b1, b2, b3, hlt, rfl, b4⟩, fun x H3 hx => ?_⟩
    obtain ⟨rfl, rx⟩ := hy x H3 hx
    refine ⟨With O0 D, env2, its[i], e3, S.ok, rx, hgv, fun σ4 H4 s4 w4 o4 => ⟨?_, With O0 D, e3, s4.ok, ?_⟩⟩
    · rw [w4, wipe_idem]
    have hw : L2.wipe σ4 vs = L2.wipe σ vs := by rw [w4, wipe_idem]
    simp only [Out.of_some, Out.bind_ok] at hf
    cases htv : t e3 with
    | ex c fs e => rw [htv] at hf; cases hf
    | stuck => rw [htv] at hf; cases hf
    | ok r =>
    obtain ⟨b, e4⟩ := r
    rw [htv] at hf
    intro H5 s5
    have nD : ¬ Own env2 (L2.wipe σ vs) D := fun z => S.ok.dis D z (.inr rfl)
    have T5 : Stp X.K (With O0 D) env2 (L2.wipe σ vs) H3 e4 σ4 H5 := s4.trans s5.step
    have o5 : ∀ a, Own e4 σ4 a → Own env2 (L2.wipe σ vs) a := fun a z => o4 a (s5.le a z)
    cases b with
    | false =>
      simp only [Out.bind_ok, Bool.false_eq_true, if_false] at hf ⊢
      refine ⟨wipeE e4 vs, acc, ps, StpD.turn S T5 hw o5, T5.keep D _ hD2 nD, ?_, hf⟩
      rw [← hw]
      exact Rps.goes (Goes.shrink fun a z => z.elim .inl fun z => .inr (own_wipe z)) _ _ (T5.rps S.ok hps)
    | true =>
      simp only [Out.bind_ok, if_true] at hf ⊢
      refine ⟨With O0 D, e4, s5.ok, ?_⟩
      cases hdv : d e4 with
      | ex c fs e => rw [hdv] at hf; cases hf
      | stuck => rw [hdv] at hf; cases hf
      | ok r =>
      obtain ⟨y, e5⟩ := r
      rw [hdv] at hf
      simp only [Out.bind_ok] at hf
      have hz : acc.length < sizeLine := Decidable.byContradiction fun hz => by
        rw [if_neg hz] at hf
        cases hf
      rw [if_pos hz] at hf
      intro H6 s6 p rp
      have T6 : Stp X.K (With O0 D) env2 (L2.wipe σ vs) H3 e5 σ4 H6 := T5.trans s6.step
      have o6 : ∀ a, Own e5 σ4 a → Own env2 (L2.wipe σ vs) a := fun a z => o5 a (s6.le a z)
      have hD6 := T6.keep D _ hD2 nD
      have S6 := StpD.turn S T6 hw o6
      refine ⟨ps, hD6, by rw [← hps.length]; exact hz, wipeE e5 vs, acc ++ [y], ps ++ [p], S6.grow hD6, upd_same, ?_, hf⟩
      refine Rps.goes (Goes.grow (.inl (.inr rfl)) hD6) _ _ ?_
      rw [← hw]
      exact Rps.goes (Goes.shrink fun a z => z.elim .inl fun z => .inr (own_wipe z)) _ _ (Rps.append (T6.rps S.ok hps) (.cons rp .nil))
  · have e : i = its.length := by omega
    subst e
    rw [List.drop_length] at hf
    unfold lcF at hf
    cases hf
    exact .inl ⟨(wk _ H2 gl _).2 (Nat.le_refl _), q1 H2 (back_stp hp s1.ok hD S) D ps ⟨s1.no hD, back_ok hp s1.ok hD S, hD2, Rps.goes (Goes.shrink fun a z => z.elim .inl fun z => .inr (back_own hp z)) _ _ hps⟩⟩
section
variable {elt tg iter : Expr} {ifs : List Expr} {scope : Scope} {own : List (Str × Nat)} {pos : Pos} {dl : DL} {g : DG} {t : DT} {d : D}
theorem df_lc {N0 : List Str} {sc0 : Scope} (hc : X.calm = true) (hN : X.N.Nodup) (hN0 : X.N = N0) (hs0 : X.env.scope = sc0) (hb : blkC N0 sc0 scope own = true) (hi : DIG X W tg iter dl)
    (hg : ∀ (s : Shared) (H : Hp) (C : Addr) (cl : List (Str × Addr)) (fp : List Addr), DGv (X.blk s H scope (compEnvC scope cl C X.env) fp) (own.map (·.2)) tg g)
    (ht : ∀ (s : Shared) (H : Hp) (C : Addr) (cl : List (Str × Addr)) (fp : List Addr), DTs (X.blk s H scope (compEnvC scope cl C X.env) fp) ifs t)
    (he : ∀ (s : Shared) (H : Hp) (C : Addr) (cl : List (Str × Addr)) (fp : List Addr), DE (X.blk s H scope (compEnvC scope cl C X.env) fp) WF elt d) (hs : ∀ x, foldedSetIterable iter X.env x = pure x := by intro _; rfl) :
    DF X W (.ListComp elt [⟨tg, iter, ifs, 0⟩] scope pos) (dLc dl g t d (own.map (·.2))) := fun O0 =>
  PE.imp (pe_lc hc hN (hi O0) (blkOk_by (hN0 ▸ hs0 ▸ hb)) (fun s H C cl fp => pg_ex fun O1 => hg s H C cl fp ⟨X.K, X.mg, O1, WF⟩ rfl) (fun s H C cl fp => pts_ex fun O1 => ht s H C cl fp O1) (fun s H C cl fp => pe_ex fun O1 => he s H C cl fp O1) hs) fun σ H Q h => lc_imp h
/-- name = [..] on one line -/
theorem ds_setLc {N0 : List Str} {sc0 : Scope} {i : Nat} {y : Str} {py spos : Pos} (hc : X.calm = true) (hN : X.N.Nodup) (hy : X.N[i]? = some y) (hyl : X.env.scope.names.lookup y = some .local)
    (hN0 : X.N = N0) (hs0 : X.env.scope = sc0) (hb : blkC N0 sc0 scope own = true) (hi : DIG X W tg iter dl)
    (hg : ∀ (s : Shared) (H : Hp) (C : Addr) (cl : List (Str × Addr)) (fp : List Addr), DGv (X.blk s H scope (compEnvC scope cl C X.env) fp) (own.map (·.2)) tg g)
    (ht : ∀ (s : Shared) (H : Hp) (C : Addr) (cl : List (Str × Addr)) (fp : List Addr), DTs (X.blk s H scope (compEnvC scope cl C X.env) fp) ifs t)
    (he : ∀ (s : Shared) (H : Hp) (C : Addr) (cl : List (Str × Addr)) (fp : List Addr), DE (X.blk s H scope (compEnvC scope cl C X.env) fp) WF elt d)
    (hsw : swapsWith (.ListComp elt [⟨tg, iter, ifs, 0⟩] scope pos) (some (.Name y py)) spos.line X.env = pure true := by exact sw_true rfl rfl rfl rfl) (hs : ∀ x, foldedSetIterable iter X.env x = pure x := by intro _; rfl) :
    DSt X W (.Assign [.Name y py] (.ListComp elt [⟨tg, iter, ifs, 0⟩] scope pos) spos) (dAsgO i (dLc dl g t d (own.map (·.2)))) := fun O0 =>
  PS.imp (ps_setLc hc hN hy hyl hsw (hi O0) (blkOk_by (hN0 ▸ hs0 ▸ hb)) (fun s H C cl fp => pg_ex fun O1 => hg s H C cl fp ⟨X.K, X.mg, O1, WF⟩ rfl) (fun s H C cl fp => pts_ex fun O1 => ht s H C cl fp O1) (fun s H C cl fp => pe_ex fun O1 => he s H C cl fp O1) hs) fun Dn σ H ⟨env, ok, q⟩ =>
    lc_imp ⟨env, ok, by
      unfold dAsgO at q
      cases hd : dLc dl g t d (own.map (·.2)) env with
      | ok pr =>
        obtain ⟨ds, e1⟩ := pr
        rw [hd] at q
        intro H1 s1 a ps f
        obtain ⟨e2, h2, q2⟩ := EndS.of q
        obtain ⟨hfr, rfl⟩ := setOw_free h2
        exact q2 _ _ (Stp.setOw ok s1.step hfr f)
      | ex c fs e1 => rw [hd] at q; exact fun H' cls d s r => q σ H' cls d s.step r
      | stuck => rw [hd] at q; exact q⟩
end
end
end TL

/-! TL22: slices, names of the module. -/
namespace TL
open PySem PySem.Spec PyProof.Rows L2
abbrev DOp := En → Out (Option Int × En)
def tOp (Y : Pm) (d : DOp) : TO := fun σ H Q => ∃ env, Ok Y.K Y.O0 env σ H ∧ EndE Y env σ H (fun l _ H' => Q l H') (d env)
def DPO (X : Cx) (W : WX) (o : Option Expr) (d : DOp) : Prop := ∀ O0, PO X o (tOp (Cx.pm X W O0) d)
def dNoP : DOp := fun env => .ok (none, env)
def dPrt (d : D) : DOp := fun env => (d env).bind fun (v, e1) => match v with
  | .int i => .ok (some i, e1)
  | _ => .stuck
def cutD (xs : List PyData) (lo hi : Option Int) : List PyData := (xs.drop (HT.sIx xs.length 0 lo)).take (HT.sIx xs.length xs.length hi - HT.sIx xs.length 0 lo)
def pySl : PyData → Option Int → Option Int → Option PyData
  | .list ds, lo, hi => some (.list (cutD ds lo hi))
  | .tuple ds, lo, hi => some (.tuple (cutD ds lo hi))
  | _, _, _ => none
def dSl (d : D) (l h : DOp) : D := fun env => (d env).bind fun (v, e1) => (l e1).bind fun (lo, e2) => (h e2).bind fun (hi, e3) => (Out.of (pySl v lo hi)).bind fun u => .ok (u, e3)
/-- the slice as a list of its own -/
def dSlF (d : D) (l h : DOp) : DL := fun env => (d env).bind fun (v, e1) => (l e1).bind fun (lo, e2) => (h e2).bind fun (hi, e3) => match v with
  | .list ds => .ok (cutD ds lo hi, e3)
  | _ => .stuck
section
variable {X : Cx} {W : WX} {k : Nat} {e a b c : Expr} {d da db : D} {l h : DOp} {lo hi : Option Expr} {pos p2 : Pos} {x : Str}
theorem PO.imp {o : Option Expr} {t t' : TO} (h : PO X o t) (i : ∀ σ H Q, t' σ H Q → t σ H Q) : PO X o t' := ⟨fun pins s σ H Q I q => h.run pins s σ H Q I (i _ _ _ q)⟩
theorem po_no : DPO X W none dNoP := fun O0 => PO.imp po_none fun σ H Q ⟨env, ok, q⟩ => q H (StpE.refl ok)
theorem po_of (h : DE X W e d) : DPO X W (some e) (dPrt d) := fun O0 => PO.imp (po_some (h O0)) fun σ H Q ⟨env, ok, q⟩ => ⟨env, ok, EndE.bind q fun v e1 H1 s1 q1 p rp => by
  dsimp only at q1
  split at q1
  · cases rp
    exact ⟨_, rfl, q1 H1 (StpE.refl s1.ok)⟩
  · exact (show False from q1).elim⟩
theorem Rps.cut {K : PySem.W.Frag} {O : Addr → Prop} {H : Hp} {ds : List PyData} {xs : List V} (r : Rps K O H ds xs) (lo hi : Option Int) : Rps K O H (cutD ds lo hi) (cutV xs lo hi) := by
  unfold cutD cutV
  rw [r.length]
  exact (r.drop _).take _
theorem de_sl (he : DE X W e d) (hl : DPO X W lo l) (hu : DPO X W hi h) : DE X W (.Subscript e (.Slice lo hi none p2) pos) (dSl d l h) := fun O0 =>
  PE.imp (pe_slice (SlR.or sl_list sl_tupA) (he O0) (hl O0) (hu O0)) fun σ H Q ⟨env, ok, q⟩ => ⟨env, ok, EndE.bind q fun v e1 H1 s1 q1 p rp => ⟨e1, s1.ok, EndE.bind q1 fun lo e2 H2 s2 q2 => ⟨e2, s2.ok, EndE.bind q2 fun hi e3 H3 s3 q3 => by
    obtain ⟨u, hu, q4⟩ := EndE.of q3
    clear q q1 q2 q3
    have rp := (s2.trans s3).step.rp s1.ok rp
    unfold pySl at hu
    split at hu
    · cases hu
      cases rp with
      | lst h1 h2 h3 => exact .inl ⟨_, _, rfl, .inl (.inl h1), fun p hp => q4 _ (StpE.new s3.ok hp) _ (Rp.newL s3.ok hp (h3.cut _ _))⟩
    · cases hu
      cases rp with
      | @tup ad xs _ h1 h3 =>
        refine .inr ⟨_, _, rfl, h1, fun hw => ?_, fun _ p hp => q4 _ (StpE.new s3.ok hp) _ (Rp.newT hp (h3.cut _ _))⟩
        refine q4 _ (StpE.refl s3.ok) _ (.tup h1 ?_)
        unfold cutD
        rw [h3.length, hw.1, hw.2]
        have : (List.drop 0 ‹List PyData›).take (xs.length - 0) = ‹List PyData› := by
          rw [List.drop_zero, Nat.sub_zero, ← h3.length, List.take_length]
        rw [this]
        exact h3
    · cases hu⟩⟩⟩
theorem df_sl (he : DE X W e d) (hl : DPO X W lo l) (hu : DPO X W hi h) : DF X W (.Subscript e (.Slice lo hi none p2) pos) (dSlF d l h) := fun O0 =>
  PE.imp (pe_slice sl_list (he O0) (hl O0) (hu O0)) fun σ H Q ⟨env, ok, q⟩ => ⟨env, ok, EndE.bind q fun v e1 H1 s1 q1 p rp => ⟨e1, s1.ok, EndE.bind q1 fun lo e2 H2 s2 q2 => ⟨e2, s2.ok, EndE.bind q2 fun hi e3 H3 s3 q3 => by
    clear q q1 q2
    have rp := (s2.trans s3).step.rp s1.ok rp
    dsimp only at q3
    split at q3
    · cases rp with
      | lst h1 h2 h3 => exact ⟨_, _, rfl, .inl (.inl h1), fun p hp => q3 _ (StpE.new s3.ok hp) p _ (Fresh.lay s3.ok hp ((s1.trans (s2.trans s3)).no hp) (h3.cut _ _))⟩
    · exact (show False from q3).elim⟩⟩⟩
/-- a name of the module -/
theorem de_glob {v : PyData} {u : V} {uv : Value} (hg : Gl X x) (hm : X.mg x = some uv) (r : RelV u uv) (hr : ∀ K O H, Rp K O H v u) (hd : (x == ("__debug__" : Str)) = false := by decide) : DE X W (.Name x pos) (dC v) := de_c (pe_glob hg hm r hd) hr
theorem de_globI {n : Int} (hm : ∃ uv, X.mg x = some uv ∧ RelV (.int n) uv) (hg : Gl X x := by rfl) (hd : (x == ("__debug__" : Str)) = false := by decide) : DE X W (.Name x pos) (dC (.int n)) := by
  obtain ⟨uv, h1, h2⟩ := hm
  exact de_glob hg h1 h2 (fun _ _ _ => .int n) hd
end
end TL

/-! TL23: the walk's end where names of the module are read. -/
namespace TL
open PySem PySem.Spec PySem.W PyProof.Rows L2
theorem walk_x {l : PySem.W.OpenLaw} {n k : Nat} {q : Program} {ls : List Str} {XP : (Str → Option Value) → Heap → Prop} {YP : World → Heap → Prop} {d : DefRec} {KK : Params → PySem.W.Frag} {CX : World → CXT} {sp : World → Sp} {x : Str}
    (most : l.most = some n) (small : n ≤ sizeLine) (nodef : d.params.defaults = []) (room : Room k callerA) (inK : ∀ (w : World) (h : Heap), YP w h → (KK w.params).In h)
    (law : ∀ (w : World) (mg : Str → Option Value) (fa : Addr) (h : Heap), (KK w.params).In h → XP mg h → h.Ns mainGlobals mg → mg d.name = some (.ref fa) →
      ∃ fd : FuncData, (∀ (s : Shared) (u : Value), BindsTo s fd ⟨[u], []⟩ [(x, u)]) ∧ ∀ base : Heap, (KK w.params).In base → base.Ns mainGlobals mg → FnOk l.prog w (KK w.params) mg base (CX w) k fa fd [x] (sp w))
    (told : ∀ (w : World) (H : Hp) (a : Addr) (ns : List Int), ns.length ≤ n → Only H → SqL (KK w.params) H a (ns.map V.int) → sp w [.ref a] H (fun v _ => v = .bl true) fun _ _ _ => False)
    (never : ∀ (w : World) (H : Hp) (s : Shared) (e : Value) (s' : Shared), CX w [] H s (fun _ _ _ => False) e s' → False) :
    PySem.W.WalkO q ls XP YP l.row.toRowW d [] (fun f vs => PySem.call f vs) :=
  Att.attach_call most nodef fun w s0 s1 mg mb fa o pm cd doc a vs ns gr y _ _ _ nm obj hints len gens =>
    let kx := inK w _ y
    let ⟨fd, binds, ok⟩ := law w mg fa _ kx gr.X gr.T.g nm
    law_call kx gr.T.g gr.T.b gr.T.builtins gr.T.nolimit gens obj hints (Nat.le_trans len small) room ok binds (fun H only sq => told w H a ns len only sq) fun H e s' => never w H s1 e s'
theorem loose_int {p : Program} {lv : List (Str × WData)} {mg : Str → Option Value} {h : Heap} {x : Str} {n : Int} (X : XL p lv mg h) (hx : (x, WData.int n) ∈ lv) : ∃ uv, mg x = some uv ∧ RelV (.int n) uv := by
  obtain ⟨v, a, r⟩ := X.2.val _ hx
  cases r
  exact ⟨_, a, ⟨_, rfl⟩⟩
end TL

/-! TL24: what a list comprehension gives. -/
namespace TL
open PySem PySem.Spec PyProof.Rows L2
section
variable {g : DG} {t : DT} {d : D} {ws : List Nat}
theorem lc_step {v y : PyData} {rest acc : List PyData} {env e1 e2 e3 : En} (h1 : g v env = some e1) (h2 : t e1 = .ok (true, e2)) (h3 : d e2 = .ok (y, e3)) (hz : acc.length < sizeLine) : lcF g t d ws (v :: rest) acc env = lcF g t d ws rest (acc ++ [y]) (wipeE e3 ws) := by
  rw [lcF, h1]
  simp only [Out.of_some, Out.bind_ok, h2, if_true, h3, if_pos hz]
theorem lc_ok {P : PyData → Prop} {I : En → Prop} : ∀ (its acc : List PyData) (env : En), I env → acc.length + its.length ≤ sizeLine →
    (∀ v ∈ its, ∀ env, I env → ∃ e1 e2 e3 y, g v env = some e1 ∧ t e1 = .ok (true, e2) ∧ d e2 = .ok (y, e3) ∧ P y ∧ I (wipeE e3 ws)) → ∃ ds en, lcF g t d ws its acc env = .ok (acc ++ ds, en) ∧ ds.length = its.length ∧ (∀ y ∈ ds, P y) ∧ I en
  | [], acc, env, h, _, _ => ⟨[], env, by rw [List.append_nil]; rfl, rfl, (fun _ hm => nomatch hm), h⟩
  | v :: its, acc, env, h, hz, hs => by
    obtain ⟨e1, e2, e3, y, h1, h2, h3, hp, hi⟩ := hs v List.mem_cons_self env h
    rw [List.length_cons] at hz
    obtain ⟨ds, en, h4, h5, h6, h7⟩ := lc_ok its (acc ++ [y]) _ hi (by rw [List.length_append]; show acc.length + 1 + _ ≤ _; omega) fun u hu => hs u (List.mem_cons_of_mem _ hu)
    refine ⟨y :: ds, en, ?_, by rw [List.length_cons, List.length_cons, h5], fun z hz => ?_, h7⟩
    · rw [lc_step h1 h2 h3 (by omega), h4, List.append_assoc]
      rfl
    · rcases List.mem_cons.mp hz with rfl | hz
      · exact hp
      · exact h6 z hz
theorem lc_map {f : PyData → PyData} {env : En} : ∀ (its acc : List PyData), acc.length + its.length ≤ sizeLine →
    (∀ v ∈ its, ∃ e1 e2 e3, g v env = some e1 ∧ t e1 = .ok (true, e2) ∧ d e2 = .ok (f v, e3) ∧ wipeE e3 ws = env) → lcF g t d ws its acc env = .ok (acc ++ its.map f, env)
  | [], acc, _, _ => by rw [List.map_nil, List.append_nil]; rfl
  | v :: its, acc, hz, hs => by
    obtain ⟨e1, e2, e3, h1, h2, h3, hw⟩ := hs v List.mem_cons_self
    rw [List.length_cons] at hz
    rw [lc_step h1 h2 h3 (by omega), hw, lc_map its (acc ++ [f v]) (by rw [List.length_append]; show acc.length + 1 + _ ≤ _; omega) fun u hu => hs u (List.mem_cons_of_mem _ hu), List.append_assoc]
    rfl
/-- the whole comprehension -/
theorem dLc_of {dl : DL} {env e1 en : En} {its ds : List PyData} (h1 : dl env = .ok (its, e1)) (h2 : pvsAt e1 ws = true) (h3 : lcF g t d ws its [] (wipeE e1 ws) = .ok (ds, en)) : dLc dl g t d ws env = .ok (ds, backE e1 en ws) := by
  unfold dLc
  rw [h1]
  simp only [Out.bind_ok, h2, if_true, h3]
  rfl
end
end TL

namespace Lw
open PySem PySem.Spec PyProof.Rows L2 TL
def topS (i : Nat) : Stmt := PySem.Challenge.pw_gridshapes_k01_whole_slopes.main.body.getD i (.Pass ⟨0, 0, 0, 0⟩)
def c_VECTOR_MOST : Int := (10 ^ 61)
structure Nm (mg : Str → Option Value) : Prop where
  n_abs : mg "abs" = none
  n_bool : mg "bool" = none
  n_int : mg "int" = none
  n_isinstance : mg "isinstance" = none
  n_len : mg "len" = none
  n_max : mg "max" = none
  n_min : mg "min" = none
  n_range : mg "range" = none
  n_tuple : mg "tuple" = none
  n_ValueError : mg "ValueError" = none
  m_VECTOR_MOST : ∃ uv, mg "VECTOR_MOST" = some uv ∧ RelV (.int c_VECTOR_MOST) uv
abbrev s_is_number : Stmt := topS 5
theorem sc_is_number : FnScope ["value"] ["value"] (defScope s_is_number) := ⟨rfl, rfl, rfl, by decide +kernel, rfl, by decide +kernel, by decide +kernel⟩
noncomputable def b_is_number : DS :=
    (dRet (dAndV (dIsA "int" (dVar 0)) (dNotV (dIsA "bool" (dVar 0)))))
noncomputable def F_is_number : Fn := runF 1 b_is_number
theorem ok_is_number {P : Program} {w : World} {K : PySem.W.Frag} {mg : Str → Option Value} {base : Heap} {f : Addr} {fd : FuncData} (N : Nm mg) (F : Fun K "is_number" "is_number" s_is_number f fd) :
    FnOk P w K mg base (L2.CX P w) 1 f fd ["value"] (spOf K mg 1 F_is_number) 
    := fn_tells (k := 0) (body := b_is_number) F sc_is_number (by decide) (by decide) (by decide) fun cdv A outer s H E G => by
    refine dss_one ?_
    refine ds_ret ?_
    refine de_and ?_ ?_
    · refine de_isA N.n_isinstance ?_ (pe_ty (T := "int") (by rfl) N.n_int (by decide +kernel))
      exact de_var (pv 0)
    · refine de_one ?_
      refine de_not ?_
      refine de_isA N.n_isinstance ?_ (pe_ty (T := "bool") (by rfl) N.n_bool (by decide +kernel))
      exact de_var (pv 0)
abbrev s_cross : Stmt := topS 10
theorem sc_cross : FnScope ["one", "other"] ["one", "other"] (defScope s_cross) := ⟨rfl, rfl, rfl, by decide +kernel, rfl, by decide +kernel, by decide +kernel⟩
noncomputable def b_cross : DS :=
    (dRet (dOp pySub (dOp pyMul (dOp pyIx (dVar 0) (dC (.int 0))) (dOp pyIx (dVar 1) (dC (.int 1)))) (dOp pyMul (dOp pyIx (dVar 0) (dC (.int 1))) (dOp pyIx (dVar 1) (dC (.int 0))))))
noncomputable def F_cross : Fn := runF 2 b_cross
theorem ok_cross {P : Program} {w : World} {K : PySem.W.Frag} {mg : Str → Option Value} {base : Heap} {f : Addr} {fd : FuncData} (N : Nm mg) (F : Fun K "cross" "cross" s_cross f fd) :
    FnOk P w K mg base (L2.CX P w) 1 f fd ["one", "other"] (spOf K mg 2 F_cross) 
    := fn_tells (k := 0) (body := b_cross) F sc_cross (by decide) (by decide) (by decide) fun cdv A outer s H E G => by
    refine dss_one ?_
    refine ds_ret ?_
    refine de_sub ?_ ?_
    · refine de_mul ?_ ?_
      · refine de_ix ?_ ?_
        · exact de_var (pv 0)
        · exact de_int
      · refine de_ix ?_ ?_
        · exact de_var (pv 1)
        · exact de_int
    · refine de_mul ?_ ?_
      · refine de_ix ?_ ?_
        · exact de_var (pv 0)
        · exact de_int
      · refine de_ix ?_ ?_
        · exact de_var (pv 1)
        · exact de_int
abbrev s_dot : Stmt := topS 11
theorem sc_dot : FnScope ["one", "other"] ["one", "other"] (defScope s_dot) := ⟨rfl, rfl, rfl, by decide +kernel, rfl, by decide +kernel, by decide +kernel⟩
noncomputable def b_dot : DS :=
    (dRet (dOp pyAdd (dOp pyMul (dOp pyIx (dVar 0) (dC (.int 0))) (dOp pyIx (dVar 1) (dC (.int 0)))) (dOp pyMul (dOp pyIx (dVar 0) (dC (.int 1))) (dOp pyIx (dVar 1) (dC (.int 1))))))
noncomputable def F_dot : Fn := runF 2 b_dot
theorem ok_dot {P : Program} {w : World} {K : PySem.W.Frag} {mg : Str → Option Value} {base : Heap} {f : Addr} {fd : FuncData} (N : Nm mg) (F : Fun K "dot" "dot" s_dot f fd) :
    FnOk P w K mg base (L2.CX P w) 1 f fd ["one", "other"] (spOf K mg 2 F_dot) 
    := fn_tells (k := 0) (body := b_dot) F sc_dot (by decide) (by decide) (by decide) fun cdv A outer s H E G => by
    refine dss_one ?_
    refine ds_ret ?_
    refine de_add ?_ ?_
    · refine de_mul ?_ ?_
      · refine de_ix ?_ ?_
        · exact de_var (pv 0)
        · exact de_int
      · refine de_ix ?_ ?_
        · exact de_var (pv 1)
        · exact de_int
    · refine de_mul ?_ ?_
      · refine de_ix ?_ ?_
        · exact de_var (pv 0)
        · exact de_int
      · refine de_ix ?_ ?_
        · exact de_var (pv 1)
        · exact de_int
abbrev s_is_upper : Stmt := topS 12
theorem sc_is_upper : FnScope ["vector"] ["vector"] (defScope s_is_upper) := ⟨rfl, rfl, rfl, by decide +kernel, rfl, by decide +kernel, by decide +kernel⟩
noncomputable def b_is_upper : DS :=
    (dRet (dOrV (dOp pyGt (dOp pyIx (dVar 0) (dC (.int 1))) (dC (.int 0))) (dAndV (dOp pyEq (dOp pyIx (dVar 0) (dC (.int 1))) (dC (.int 0))) (dOp pyGt (dOp pyIx (dVar 0) (dC (.int 0))) (dC (.int 0))))))
noncomputable def F_is_upper : Fn := runF 1 b_is_upper
theorem ok_is_upper {P : Program} {w : World} {K : PySem.W.Frag} {mg : Str → Option Value} {base : Heap} {f : Addr} {fd : FuncData} (N : Nm mg) (F : Fun K "is_upper" "is_upper" s_is_upper f fd) :
    FnOk P w K mg base (L2.CX P w) 1 f fd ["vector"] (spOf K mg 1 F_is_upper) 
    := fn_tells (k := 0) (body := b_is_upper) F sc_is_upper (by decide) (by decide) (by decide) fun cdv A outer s H E G => by
    refine dss_one ?_
    refine ds_ret ?_
    refine de_or ?_ ?_
    · refine de_gt ?_ ?_
      · refine de_ix ?_ ?_
        · exact de_var (pv 0)
        · exact de_int
      · exact de_int
    · refine de_one ?_
      refine de_and ?_ ?_
      · refine de_eq G ?_ ?_
        · refine de_ix ?_ ?_
          · exact de_var (pv 0)
          · exact de_int
        · exact de_int
      · refine de_one ?_
        refine de_gt ?_ ?_
        · refine de_ix ?_ ?_
          · exact de_var (pv 0)
          · exact de_int
        · exact de_int
abbrev s__law_pool : Stmt := topS 18
theorem sc__law_pool : FnScope ["_law_script", "_law_k", "_law_cell", "_law_big", "_law_mixed"] ["_law_script", "_law_k"] (defScope s__law_pool) := ⟨rfl, rfl, rfl, by decide +kernel, rfl, by decide +kernel, by decide +kernel⟩
noncomputable def b__law_pool : DS :=
    (dSeq (dAsg (dC (.int 0)) (gNm 2))
    (dSeq (dIfS (dBool (dOp pyLt (dVar 1) (dLenO 0))) (dAsg (dIxO 0 (dVar 1)) (gNm 2)) dPass)
    (dSeq (dAsg (dCB pyMax2 [(dCB pyInt [(dVar 2)]), (dCB pyInt [(dOp pySub (dNeg (dC (.int 1))) (dVar 2))])]) (gNm 3))
    (dSeq (dAsg (dOp pyMod (dCB pyInt [(dOp pyMul (dOp pyAdd (dOp pyAdd (dOp pyAdd (dOp pyMod (dCB pyInt [(dVar 3)]) (dC (.int 2147483629))) (dOp pyMul (dOp pyMul (dC (.int 7919)) (dVar 1)) (dVar 1))) (dOp pyMul (dC (.int 31)) (dVar 1))) (dC (.int 17))) (dC (.int 48271)))]) (dC (.int 2147483647))) (gNm 4))
    (dRetF (fLst [(dOp pyMul (dVar 3) (dCB pyInt [(dOp pyGe (dVar 3) (dOp pyPow (dC (.int 10)) (dC (.int 18))))])), (dVar 4)]))))))
noncomputable def F__law_pool : Fn := runF 5 b__law_pool
theorem ok__law_pool {P : Program} {w : World} {K : PySem.W.Frag} {mg : Str → Option Value} {base : Heap} {f : Addr} {fd : FuncData} (N : Nm mg) (F : Fun K "_law_pool" "_law_pool" s__law_pool f fd) :
    FnOk P w K mg base (L2.CX P w) 1 f fd ["_law_script", "_law_k"] (spOf K mg 2 F__law_pool) 
    := fn_tells (k := 0) (body := b__law_pool) F sc__law_pool (by decide) (by decide) (by decide) fun cdv A outer s H E G => by
    refine dss_cons ?_ ?_
    · refine ds_set (i := 2) G.nd rfl (.inl rfl) ?_
      exact de_int
    · refine dss_cons ?_ ?_
      · refine ds_if ?_ ?_ ?_
        · refine dt_lt ?_ ?_
          · exact de_var (pv 1)
          · exact de_lenO N.n_len (pv 0)
        · refine dss_one ?_
          refine ds_set (i := 2) G.nd rfl (.inl rfl) ?_
          refine de_ixO (pv 0) ?_
          exact de_var (pv 1)
        · exact dss_nil
      · refine dss_cons ?_ ?_
        · refine ds_set (i := 3) G.nd rfl (.inl rfl) ?_
          refine de_max2 G N.n_max ?_
          refine das_cons ?_ ?_
          · refine de_intC N.n_int ?_
            refine das_cons ?_ ?_
            · exact de_var (pv 2)
            · exact das_nil
          · refine das_cons ?_ ?_
            · refine de_intC N.n_int ?_
              refine das_cons ?_ ?_
              · refine de_sub ?_ ?_
                · refine de_neg ?_
                  exact de_int
                · exact de_var (pv 2)
              · exact das_nil
            · exact das_nil
        · refine dss_cons ?_ ?_
          · refine ds_set (i := 4) G.nd rfl (.inl rfl) ?_
            refine de_mod ?_ ?_
            · refine de_intC N.n_int ?_
              refine das_cons ?_ ?_
              · refine de_mul ?_ ?_
                · refine de_add ?_ ?_
                  · refine de_add ?_ ?_
                    · refine de_add ?_ ?_
                      · refine de_mod ?_ ?_
                        · refine de_intC N.n_int ?_
                          refine das_cons ?_ ?_
                          · exact de_var (pv 3)
                          · exact das_nil
                        · exact de_int
                      · refine de_mul ?_ ?_
                        · refine de_mul ?_ ?_
                          · exact de_int
                          · exact de_var (pv 1)
                        · exact de_var (pv 1)
                    · refine de_mul ?_ ?_
                      · exact de_int
                      · exact de_var (pv 1)
                  · exact de_int
                · exact de_int
              · exact das_nil
            · exact de_int
          · refine dss_one ?_
            refine ds_retF ?_
            refine df_lst ?_
            refine das_cons ?_ ?_
            · refine de_mul ?_ ?_
              · exact de_var (pv 3)
              · refine de_intC N.n_int ?_
                refine das_cons ?_ ?_
                · refine de_ge ?_ ?_
                  · exact de_var (pv 3)
                  · refine de_pow ?_ ?_
                    · exact de_int
                    · exact de_int
                · exact das_nil
            · refine das_cons ?_ ?_
              · exact de_var (pv 4)
              · exact das_nil
abbrev s__law_take : Stmt := topS 19
theorem sc__law_take : FnScope ["_law_source", "_law_top", "_law_drawn"] ["_law_source", "_law_top"] (defScope s__law_take) := ⟨rfl, rfl, rfl, by decide +kernel, rfl, by decide +kernel, by decide +kernel⟩
noncomputable def b__law_take : DS :=
    (dSeq (dIfS (dBool (dOp pyGt (dIxO 0 (dC (.int 0))) (dC (.int 0)))) (dSeq (dAsg (dOp pyMod (dCB pyInt [(dIxO 0 (dC (.int 0)))]) (dVar 1)) (gNm 2))
    (dSeq (dSetIx 0 (dC (.int 0)) (dOp pyDiv (dIxO 0 (dC (.int 0))) (dVar 1)))
    (dRet (dVar 2)))) dPass)
    (dSeq (dSetIx 0 (dC (.int 1)) (dOp pyMod (dCB pyInt [(dOp pyAdd (dOp pyMul (dIxO 0 (dC (.int 1))) (dC (.int 39373))) (dC (.int 7)))]) (dC (.int 2147483647))))
    (dRet (dOp pyMod (dCB pyInt [(dOp pyDiv (dOp pyMod (dCB pyInt [(dOp pyMul (dIxO 0 (dC (.int 1))) (dIxO 0 (dC (.int 1))))]) (dC (.int 2147483629))) (dC (.int 32)))]) (dVar 1)))))
noncomputable def F__law_take : Fn := runF 3 b__law_take
theorem ok__law_take {P : Program} {w : World} {K : PySem.W.Frag} {mg : Str → Option Value} {base : Heap} {f : Addr} {fd : FuncData} (N : Nm mg) (F : Fun K "_law_take" "_law_take" s__law_take f fd) :
    FnOk P w K mg base (L2.CX P w) 1 f fd ["_law_source", "_law_top"] (spOf K mg 2 F__law_take) 
    := fn_tells (k := 0) (body := b__law_take) F sc__law_take (by decide) (by decide) (by decide) fun cdv A outer s H E G => by
    refine dss_cons ?_ ?_
    · refine ds_if ?_ ?_ ?_
      · refine dt_gt ?_ ?_
        · refine de_ixO (pv 0) ?_
          exact de_int
        · exact de_int
      · refine dss_cons ?_ ?_
        · refine ds_set (i := 2) G.nd rfl (.inl rfl) ?_
          refine de_mod ?_ ?_
          · refine de_intC N.n_int ?_
            refine das_cons ?_ ?_
            · refine de_ixO (pv 0) ?_
              exact de_int
            · exact das_nil
          · exact de_var (pv 1)
        · refine dss_cons ?_ ?_
          · refine ds_setIx (pv 0) ?_ ?_
            · exact de_int
            · refine de_div ?_ ?_
              · refine de_ixO (pv 0) ?_
                exact de_int
              · exact de_var (pv 1)
          · refine dss_one ?_
            refine ds_ret ?_
            exact de_var (pv 2)
      · exact dss_nil
    · refine dss_cons ?_ ?_
      · refine ds_setIx (pv 0) ?_ ?_
        · exact de_int
        · refine de_mod ?_ ?_
          · refine de_intC N.n_int ?_
            refine das_cons ?_ ?_
            · refine de_add ?_ ?_
              · refine de_mul ?_ ?_
                · refine de_ixO (pv 0) ?_
                  exact de_int
                · exact de_int
              · exact de_int
            · exact das_nil
          · exact de_int
      · refine dss_one ?_
        refine ds_ret ?_
        refine de_mod ?_ ?_
        · refine de_intC N.n_int ?_
          refine das_cons ?_ ?_
          · refine de_div ?_ ?_
            · refine de_mod ?_ ?_
              · refine de_intC N.n_int ?_
                refine das_cons ?_ ?_
                · refine de_mul ?_ ?_
                  · refine de_ixO (pv 0) ?_
                    exact de_int
                  · refine de_ixO (pv 0) ?_
                    exact de_int
                · exact das_nil
              · exact de_int
            · exact de_int
          · exact das_nil
        · exact de_var (pv 1)
abbrev s__law_sign : Stmt := topS 21
theorem sc__law_sign : FnScope ["_law_one_it", "_law_other_it", "_law_apart"] ["_law_one_it", "_law_other_it"] (defScope s__law_sign) := ⟨rfl, rfl, rfl, by decide +kernel, rfl, by decide +kernel, by decide +kernel⟩
noncomputable def b__law_sign : DS :=
    (dSeq (dAsg (dOp pySub (dOp pyMul (dOp pyIx (dVar 0) (dC (.int 0))) (dOp pyIx (dVar 1) (dC (.int 1)))) (dOp pyMul (dOp pyIx (dVar 1) (dC (.int 0))) (dOp pyIx (dVar 0) (dC (.int 1))))) (gNm 2))
    (dRet (dOp pySub (dCB pyInt [(dOp pyGt (dVar 2) (dC (.int 0)))]) (dCB pyInt [(dOp pyLt (dVar 2) (dC (.int 0)))]))))
noncomputable def F__law_sign : Fn := runF 3 b__law_sign
theorem ok__law_sign {P : Program} {w : World} {K : PySem.W.Frag} {mg : Str → Option Value} {base : Heap} {f : Addr} {fd : FuncData} (N : Nm mg) (F : Fun K "_law_sign" "_law_sign" s__law_sign f fd) :
    FnOk P w K mg base (L2.CX P w) 1 f fd ["_law_one_it", "_law_other_it"] (spOf K mg 2 F__law_sign) 
    := fn_tells (k := 0) (body := b__law_sign) F sc__law_sign (by decide) (by decide) (by decide) fun cdv A outer s H E G => by
    refine dss_cons ?_ ?_
    · refine ds_set (i := 2) G.nd rfl (.inl rfl) ?_
      refine de_sub ?_ ?_
      · refine de_mul ?_ ?_
        · refine de_ix ?_ ?_
          · exact de_var (pv 0)
          · exact de_int
        · refine de_ix ?_ ?_
          · exact de_var (pv 1)
          · exact de_int
      · refine de_mul ?_ ?_
        · refine de_ix ?_ ?_
          · exact de_var (pv 1)
          · exact de_int
        · refine de_ix ?_ ?_
          · exact de_var (pv 0)
          · exact de_int
    · refine dss_one ?_
      refine ds_ret ?_
      refine de_sub ?_ ?_
      · refine de_intC N.n_int ?_
        refine das_cons ?_ ?_
        · refine de_gt ?_ ?_
          · exact de_var (pv 2)
          · exact de_int
        · exact das_nil
      · refine de_intC N.n_int ?_
        refine das_cons ?_ ?_
        · refine de_lt ?_ ?_
          · exact de_var (pv 2)
          · exact de_int
        · exact das_nil
abbrev s__law_quarter : Stmt := topS 23
theorem sc__law_quarter : FnScope ["_law_vector_here", "_law_x", "_law_y"] ["_law_vector_here"] (defScope s__law_quarter) := ⟨rfl, rfl, rfl, by decide +kernel, rfl, by decide +kernel, by decide +kernel⟩
noncomputable def b__law_quarter : DS :=
    (dSeq (dAsg (dVar 0) (gTp 2 (gsC (gNm 1) (gsC (gNm 2) gs0))))
    (dSeq (dIfS (dAnd (dBool (dOp pyGt (dVar 1) (dC (.int 0)))) (dBool (dOp pyGe (dVar 2) (dC (.int 0))))) (dRet (dTup [(dC (.int 0)), (dTup [(dVar 2), (dVar 1)])])) dPass)
    (dSeq (dIfS (dAnd (dBool (dOp pyLe (dVar 1) (dC (.int 0)))) (dBool (dOp pyGt (dVar 2) (dC (.int 0))))) (dRet (dTup [(dC (.int 1)), (dTup [(dOp pySub (dC (.int 0)) (dVar 1)), (dVar 2)])])) dPass)
    (dSeq (dIfS (dAnd (dBool (dOp pyLt (dVar 1) (dC (.int 0)))) (dBool (dOp pyLe (dVar 2) (dC (.int 0))))) (dRet (dTup [(dC (.int 2)), (dTup [(dOp pySub (dC (.int 0)) (dVar 2)), (dOp pySub (dC (.int 0)) (dVar 1))])])) dPass)
    (dRet (dTup [(dC (.int 3)), (dTup [(dVar 1), (dOp pySub (dC (.int 0)) (dVar 2))])]))))))
noncomputable def F__law_quarter : Fn := runF 3 b__law_quarter
theorem ok__law_quarter {P : Program} {w : World} {K : PySem.W.Frag} {mg : Str → Option Value} {base : Heap} {f : Addr} {fd : FuncData} (N : Nm mg) (F : Fun K "_law_quarter" "_law_quarter" s__law_quarter f fd) :
    FnOk P w K mg base (L2.CX P w) 1 f fd ["_law_vector_here"] (spOf K mg 1 F__law_quarter) 
    := fn_tells (k := 0) (body := b__law_quarter) F sc__law_quarter (by decide) (by decide) (by decide) fun cdv A outer s H E G => by
    refine dss_cons ?_ ?_
    · refine ds_asg ?_ ?_
      · exact de_var (pv 0)
      · refine dg_tup G.calm ?_
        refine dgs_cons ?_ ?_
        · exact dg_name (pg_name (i := 1) G.nd rfl (.inl rfl))
        · refine dgs_cons ?_ ?_
          · exact dg_name (pg_name (i := 2) G.nd rfl (.inl rfl))
          · exact dgs_nil
    · refine dss_cons ?_ ?_
      · refine ds_if ?_ ?_ ?_
        · refine dt_w ?_
          refine dw_and ?_ ?_
          · refine dt_gt ?_ ?_
            · exact de_var (pv 1)
            · exact de_int
          · refine dw_and1 ?_
            refine dt_ge ?_ ?_
            · exact de_var (pv 2)
            · exact de_int
        · refine dss_one ?_
          refine ds_ret ?_
          refine de_tup ?_
          refine das_cons ?_ ?_
          · exact de_int
          · refine das_cons ?_ ?_
            · refine de_tup ?_
              refine das_cons ?_ ?_
              · exact de_var (pv 2)
              · refine das_cons ?_ ?_
                · exact de_var (pv 1)
                · exact das_nil
            · exact das_nil
        · exact dss_nil
      · refine dss_cons ?_ ?_
        · refine ds_if ?_ ?_ ?_
          · refine dt_w ?_
            refine dw_and ?_ ?_
            · refine dt_le ?_ ?_
              · exact de_var (pv 1)
              · exact de_int
            · refine dw_and1 ?_
              refine dt_gt ?_ ?_
              · exact de_var (pv 2)
              · exact de_int
          · refine dss_one ?_
            refine ds_ret ?_
            refine de_tup ?_
            refine das_cons ?_ ?_
            · exact de_int
            · refine das_cons ?_ ?_
              · refine de_tup ?_
                refine das_cons ?_ ?_
                · refine de_sub ?_ ?_
                  · exact de_int
                  · exact de_var (pv 1)
                · refine das_cons ?_ ?_
                  · exact de_var (pv 2)
                  · exact das_nil
              · exact das_nil
          · exact dss_nil
        · refine dss_cons ?_ ?_
          · refine ds_if ?_ ?_ ?_
            · refine dt_w ?_
              refine dw_and ?_ ?_
              · refine dt_lt ?_ ?_
                · exact de_var (pv 1)
                · exact de_int
              · refine dw_and1 ?_
                refine dt_le ?_ ?_
                · exact de_var (pv 2)
                · exact de_int
            · refine dss_one ?_
              refine ds_ret ?_
              refine de_tup ?_
              refine das_cons ?_ ?_
              · exact de_int
              · refine das_cons ?_ ?_
                · refine de_tup ?_
                  refine das_cons ?_ ?_
                  · refine de_sub ?_ ?_
                    · exact de_int
                    · exact de_var (pv 2)
                  · refine das_cons ?_ ?_
                    · refine de_sub ?_ ?_
                      · exact de_int
                      · exact de_var (pv 1)
                    · exact das_nil
                · exact das_nil
            · exact dss_nil
          · refine dss_one ?_
            refine ds_ret ?_
            refine de_tup ?_
            refine das_cons ?_ ?_
            · exact de_int
            · refine das_cons ?_ ?_
              · refine de_tup ?_
                refine das_cons ?_ ?_
                · exact de_var (pv 1)
                · refine das_cons ?_ ?_
                  · refine de_sub ?_ ?_
                    · exact de_int
                    · exact de_var (pv 2)
                  · exact das_nil
              · exact das_nil
abbrev s_is_number_pair : Stmt := topS 6
theorem sc_is_number_pair : FnScope ["value"] ["value"] (defScope s_is_number_pair) := ⟨rfl, rfl, rfl, by decide +kernel, rfl, by decide +kernel, by decide +kernel⟩
noncomputable def b_is_number_pair : DS :=
    (dRet (dAndV (dIsA "tuple" (dVar 0)) (dAndV (dOp pyEq (dCB pyLen [(dVar 0)]) (dC (.int 2))) (dAndV (dCall F_is_number [(dOp pyIx (dVar 0) (dC (.int 0)))]) (dCall F_is_number [(dOp pyIx (dVar 0) (dC (.int 1)))])))))
noncomputable def F_is_number_pair : Fn := runF 1 b_is_number_pair
theorem ok_is_number_pair {P : Program} {w : World} {K : PySem.W.Frag} {mg : Str → Option Value} {base : Heap} {f : Addr} {fd : FuncData} (N : Nm mg) (F : Fun K "is_number_pair" "is_number_pair" s_is_number_pair f fd) (h_c_is_number : Cal P w K mg base 1 "is_number" 1 F_is_number) :
    FnOk P w K mg base (L2.CX P w) 2 f fd ["value"] (spOf K mg 1 F_is_number_pair) 
    := fn_tells (k := 1) (body := b_is_number_pair) F sc_is_number_pair (by decide) (by decide) (by decide) fun cdv A outer s H E G => by
    refine dss_one ?_
    refine ds_ret ?_
    refine de_and ?_ ?_
    · refine de_isA N.n_isinstance ?_ (pe_ty (T := "tuple") (by rfl) N.n_tuple (by decide +kernel))
      exact de_var (pv 0)
    · refine de_and ?_ ?_
      · refine de_eq G ?_ ?_
        · refine de_len (es := []) N.n_len ?_
          refine das_cons ?_ ?_
          · exact de_var (pv 0)
          · exact das_nil
        · exact de_int
      · refine de_and ?_ ?_
        · refine de_call G h_c_is_number (by decide) ?_
          refine das_cons ?_ ?_
          · refine de_ix ?_ ?_
            · exact de_var (pv 0)
            · exact de_int
          · exact das_nil
        · refine de_one ?_
          refine de_call G h_c_is_number (by decide) ?_
          refine das_cons ?_ ?_
          · refine de_ix ?_ ?_
            · exact de_var (pv 0)
            · exact de_int
          · exact das_nil
abbrev s_is_slope_ahead : Stmt := topS 13
theorem sc_is_slope_ahead : FnScope ["one", "other"] ["one", "other"] (defScope s_is_slope_ahead) := ⟨rfl, rfl, rfl, by decide +kernel, rfl, by decide +kernel, by decide +kernel⟩
noncomputable def b_is_slope_ahead : DS :=
    (dSeq (dIfS (dBool (dOp pyNe (dCall F_is_upper [(dVar 0)]) (dCall F_is_upper [(dVar 1)]))) (dRet (dCall F_is_upper [(dVar 0)])) dPass)
    (dRet (dOp pyGt (dCall F_cross [(dVar 0), (dVar 1)]) (dC (.int 0)))))
noncomputable def F_is_slope_ahead : Fn := runF 2 b_is_slope_ahead
theorem ok_is_slope_ahead {P : Program} {w : World} {K : PySem.W.Frag} {mg : Str → Option Value} {base : Heap} {f : Addr} {fd : FuncData} (N : Nm mg) (F : Fun K "is_slope_ahead" "is_slope_ahead" s_is_slope_ahead f fd) (h_c_cross : Cal P w K mg base 1 "cross" 2 F_cross) (h_c_is_upper : Cal P w K mg base 1 "is_upper" 1 F_is_upper) :
    FnOk P w K mg base (L2.CX P w) 2 f fd ["one", "other"] (spOf K mg 2 F_is_slope_ahead) 
    := fn_tells (k := 1) (body := b_is_slope_ahead) F sc_is_slope_ahead (by decide) (by decide) (by decide) fun cdv A outer s H E G => by
    refine dss_cons ?_ ?_
    · refine ds_if ?_ ?_ ?_
      · refine dt_ne G ?_ ?_
        · refine de_call G h_c_is_upper (by decide) ?_
          refine das_cons ?_ ?_
          · exact de_var (pv 0)
          · exact das_nil
        · refine de_call G h_c_is_upper (by decide) ?_
          refine das_cons ?_ ?_
          · exact de_var (pv 1)
          · exact das_nil
      · refine dss_one ?_
        refine ds_ret ?_
        refine de_call G h_c_is_upper (by decide) ?_
        refine das_cons ?_ ?_
        · exact de_var (pv 0)
        · exact das_nil
      · exact dss_nil
    · refine dss_one ?_
      refine ds_ret ?_
      refine de_gt ?_ ?_
      · refine de_call G h_c_cross (by decide) ?_
        refine das_cons ?_ ?_
        · exact de_var (pv 0)
        · refine das_cons ?_ ?_
          · exact de_var (pv 1)
          · exact das_nil
      · exact de_int
abbrev s_is_slope_alike : Stmt := topS 14
theorem sc_is_slope_alike : FnScope ["one", "other"] ["one", "other"] (defScope s_is_slope_alike) := ⟨rfl, rfl, rfl, by decide +kernel, rfl, by decide +kernel, by decide +kernel⟩
noncomputable def b_is_slope_alike : DS :=
    (dRet (dAndV (dOp pyEq (dCall F_cross [(dVar 0), (dVar 1)]) (dC (.int 0))) (dOp pyGt (dCall F_dot [(dVar 0), (dVar 1)]) (dC (.int 0)))))
noncomputable def F_is_slope_alike : Fn := runF 2 b_is_slope_alike
theorem ok_is_slope_alike {P : Program} {w : World} {K : PySem.W.Frag} {mg : Str → Option Value} {base : Heap} {f : Addr} {fd : FuncData} (N : Nm mg) (F : Fun K "is_slope_alike" "is_slope_alike" s_is_slope_alike f fd) (h_c_cross : Cal P w K mg base 1 "cross" 2 F_cross) (h_c_dot : Cal P w K mg base 1 "dot" 2 F_dot) :
    FnOk P w K mg base (L2.CX P w) 2 f fd ["one", "other"] (spOf K mg 2 F_is_slope_alike) 
    := fn_tells (k := 1) (body := b_is_slope_alike) F sc_is_slope_alike (by decide) (by decide) (by decide) fun cdv A outer s H E G => by
    refine dss_one ?_
    refine ds_ret ?_
    refine de_and ?_ ?_
    · refine de_eq G ?_ ?_
      · refine de_call G h_c_cross (by decide) ?_
        refine das_cons ?_ ?_
        · exact de_var (pv 0)
        · refine das_cons ?_ ?_
          · exact de_var (pv 1)
          · exact das_nil
      · exact de_int
    · refine de_one ?_
      refine de_gt ?_ ?_
      · refine de_call G h_c_dot (by decide) ?_
        refine das_cons ?_ ?_
        · exact de_var (pv 0)
        · refine das_cons ?_ ?_
          · exact de_var (pv 1)
          · exact das_nil
      · exact de_int
abbrev s__law_one : Stmt := topS 20
theorem sc__law_one : FnScope ["_law_source", "_law_things"] ["_law_source", "_law_things"] (defScope s__law_one) := ⟨rfl, rfl, rfl, by decide +kernel, rfl, by decide +kernel, by decide +kernel⟩
noncomputable def b__law_one : DS :=
    (dRet (dOp pyIx (dVar 1) (dCallS F__law_take 0 [(dCB pyLen [(dVar 1)])])))
noncomputable def F__law_one : Fn := runF 2 b__law_one
theorem ok__law_one {P : Program} {w : World} {K : PySem.W.Frag} {mg : Str → Option Value} {base : Heap} {f : Addr} {fd : FuncData} (N : Nm mg) (F : Fun K "_law_one" "_law_one" s__law_one f fd) (h_c__law_take : Cal P w K mg base 1 "_law_take" 2 F__law_take) :
    FnOk P w K mg base (L2.CX P w) 2 f fd ["_law_source", "_law_things"] (spOf K mg 2 F__law_one) 
    := fn_tells (k := 1) (body := b__law_one) F sc__law_one (by decide) (by decide) (by decide) fun cdv A outer s H E G => by
    refine dss_one ?_
    refine ds_ret ?_
    refine de_ix ?_ ?_
    · exact de_var (pv 1)
    · refine de_callR G h_c__law_take (by decide) (pv 0) ?_
      refine das_cons ?_ ?_
      · refine de_len (es := []) N.n_len ?_
        refine das_cons ?_ ?_
        · exact de_var (pv 1)
        · exact das_nil
      · exact das_nil
abbrev s__law_turn_order : Stmt := topS 24
theorem sc__law_turn_order : FnScope ["_law_one_it", "_law_other_it", "_law_first", "_law_second"] ["_law_one_it", "_law_other_it"] (defScope s__law_turn_order) := ⟨rfl, rfl, rfl, by decide +kernel, rfl, by decide +kernel, by decide +kernel⟩
noncomputable def b__law_turn_order : DS :=
    (dSeq (dPar 2 3 (dCall F__law_quarter [(dVar 0)]) (dCall F__law_quarter [(dVar 1)]))
    (dSeq (dIfS (dBool (dOp pyNe (dOp pyIx (dVar 2) (dC (.int 0))) (dOp pyIx (dVar 3) (dC (.int 0))))) (dRet (dIf (dBool (dOp pyLt (dOp pyIx (dVar 2) (dC (.int 0))) (dOp pyIx (dVar 3) (dC (.int 0))))) (dNeg (dC (.int 1))) (dC (.int 1)))) dPass)
    (dRet (dCall F__law_sign [(dOp pyIx (dVar 2) (dC (.int 1))), (dOp pyIx (dVar 3) (dC (.int 1)))]))))
noncomputable def F__law_turn_order : Fn := runF 4 b__law_turn_order
theorem ok__law_turn_order {P : Program} {w : World} {K : PySem.W.Frag} {mg : Str → Option Value} {base : Heap} {f : Addr} {fd : FuncData} (N : Nm mg) (F : Fun K "_law_turn_order" "_law_turn_order" s__law_turn_order f fd) (h_c__law_quarter : Cal P w K mg base 1 "_law_quarter" 1 F__law_quarter) (h_c__law_sign : Cal P w K mg base 1 "_law_sign" 2 F__law_sign) :
    FnOk P w K mg base (L2.CX P w) 2 f fd ["_law_one_it", "_law_other_it"] (spOf K mg 2 F__law_turn_order) 
    := fn_tells (k := 1) (body := b__law_turn_order) F sc__law_turn_order (by decide) (by decide) (by decide) fun cdv A outer s H E G => by
    refine dss_cons ?_ ?_
    · refine ds_par (i := 2) (j := 3) G.calm G.nd rfl rfl (by decide) rfl rfl ?_
      refine das_cons ?_ ?_
      · refine de_call G h_c__law_quarter (by decide) ?_
        refine das_cons ?_ ?_
        · exact de_var (pv 0)
        · exact das_nil
      · refine das_cons ?_ ?_
        · refine de_call G h_c__law_quarter (by decide) ?_
          refine das_cons ?_ ?_
          · exact de_var (pv 1)
          · exact das_nil
        · exact das_nil
    · refine dss_cons ?_ ?_
      · refine ds_if ?_ ?_ ?_
        · refine dt_ne G ?_ ?_
          · refine de_ix ?_ ?_
            · exact de_var (pv 2)
            · exact de_int
          · refine de_ix ?_ ?_
            · exact de_var (pv 3)
            · exact de_int
        · refine dss_one ?_
          refine ds_ret ?_
          refine de_if ?_ ?_ ?_
          · refine dt_lt ?_ ?_
            · refine de_ix ?_ ?_
              · exact de_var (pv 2)
              · exact de_int
            · refine de_ix ?_ ?_
              · exact de_var (pv 3)
              · exact de_int
          · refine de_neg ?_
            exact de_int
          · exact de_int
        · exact dss_nil
      · refine dss_one ?_
        refine ds_ret ?_
        refine de_call G h_c__law_sign (by decide) ?_
        refine das_cons ?_ ?_
        · refine de_ix ?_ ?_
          · exact de_var (pv 2)
          · exact de_int
        · refine das_cons ?_ ?_
          · refine de_ix ?_ ?_
            · exact de_var (pv 3)
            · exact de_int
          · exact das_nil
abbrev s_is_vector : Stmt := topS 7
theorem sc_is_vector : FnScope ["value"] ["value"] (defScope s_is_vector) := ⟨rfl, rfl, rfl, by decide +kernel, rfl, by decide +kernel, by decide +kernel⟩
noncomputable def b_is_vector : DS :=
    (dRet (dAndV (dCall F_is_number_pair [(dVar 0)]) (dOp pyLe (dCB pyMax2 [(dCB pyAbs [(dOp pyIx (dVar 0) (dC (.int 0)))]), (dCB pyAbs [(dOp pyIx (dVar 0) (dC (.int 1)))])]) (dC (.int c_VECTOR_MOST)))))
noncomputable def F_is_vector : Fn := runF 1 b_is_vector
theorem ok_is_vector {P : Program} {w : World} {K : PySem.W.Frag} {mg : Str → Option Value} {base : Heap} {f : Addr} {fd : FuncData} (N : Nm mg) (F : Fun K "is_vector" "is_vector" s_is_vector f fd) (h_c_is_number_pair : Cal P w K mg base 2 "is_number_pair" 1 F_is_number_pair) :
    FnOk P w K mg base (L2.CX P w) 3 f fd ["value"] (spOf K mg 1 F_is_vector) 
    := fn_tells (k := 2) (body := b_is_vector) F sc_is_vector (by decide) (by decide) (by decide) fun cdv A outer s H E G => by
    refine dss_one ?_
    refine ds_ret ?_
    refine de_and ?_ ?_
    · refine de_call G h_c_is_number_pair (by decide) ?_
      refine das_cons ?_ ?_
      · exact de_var (pv 0)
      · exact das_nil
    · refine de_one ?_
      refine de_le ?_ ?_
      · refine de_max2 G N.n_max ?_
        refine das_cons ?_ ?_
        · refine de_abs N.n_abs ?_
          refine das_cons ?_ ?_
          · refine de_ix ?_ ?_
            · exact de_var (pv 0)
            · exact de_int
          · exact das_nil
        · refine das_cons ?_ ?_
          · refine de_abs N.n_abs ?_
            refine das_cons ?_ ?_
            · refine de_ix ?_ ?_
              · exact de_var (pv 0)
              · exact de_int
            · exact das_nil
          · exact das_nil
      · exact de_globI N.m_VECTOR_MOST
abbrev s__law_vector : Stmt := topS 22
theorem sc__law_vector : FnScope ["_law_source", "_law_times", "_law_vector_here", "_law_way"] ["_law_source"] (defScope s__law_vector) := ⟨rfl, rfl, rfl, by decide +kernel, rfl, by decide +kernel, by decide +kernel⟩
noncomputable def b__law_vector : DS :=
    (dSeq (dPar 2 3 (dTup [(dOp pySub (dCallS F__law_take 0 [(dC (.int 9))]) (dC (.int 4))), (dOp pySub (dCallS F__law_take 0 [(dC (.int 9))]) (dC (.int 4)))]) (dCallS F__law_take 0 [(dC (.int 6))]))
    (dSeq (dIfS (dBool (dOp pyEq (dVar 3) (dC (.int 0)))) (dAsg (dTup [(dOp pyIx (dVar 2) (dC (.int 0))), (dC (.int 0))]) (gNm 2)) dPass)
    (dSeq (dIfS (dBool (dOp pyEq (dVar 3) (dC (.int 1)))) (dAsg (dTup [(dC (.int 0)), (dOp pyIx (dVar 2) (dC (.int 1)))]) (gNm 2)) dPass)
    (dSeq (dAsg (dCallS F__law_one 0 [(dLst [(dC (.int 1)), (dC (.int 1)), (dC (.int 2)), (dC (.int 7)), (dOp pyPow (dC (.int 10)) (dC (.int 40)))])]) (gNm 1))
    (dRet (dIf (dBool (dOp pyNe (dVar 2) (dTup [(dC (.int 0)), (dC (.int 0))]))) (dTup [(dOp pyMul (dOp pyIx (dVar 2) (dC (.int 0))) (dVar 1)), (dOp pyMul (dOp pyIx (dVar 2) (dC (.int 1))) (dVar 1))]) (dTup [(dVar 1), (dC (.int 0))])))))))
noncomputable def F__law_vector : Fn := runF 4 b__law_vector
theorem ok__law_vector {P : Program} {w : World} {K : PySem.W.Frag} {mg : Str → Option Value} {base : Heap} {f : Addr} {fd : FuncData} (N : Nm mg) (F : Fun K "_law_vector" "_law_vector" s__law_vector f fd) (h_c__law_one : Cal P w K mg base 2 "_law_one" 2 F__law_one) (h_c__law_take : Cal P w K mg base 1 "_law_take" 2 F__law_take) :
    FnOk P w K mg base (L2.CX P w) 3 f fd ["_law_source"] (spOf K mg 1 F__law_vector) 
    := fn_tells (k := 2) (body := b__law_vector) F sc__law_vector (by decide) (by decide) (by decide) fun cdv A outer s H E G => by
    refine dss_cons ?_ ?_
    · refine ds_par (i := 2) (j := 3) G.calm G.nd rfl rfl (by decide) rfl rfl ?_
      refine das_cons ?_ ?_
      · refine de_tup ?_
        refine das_cons ?_ ?_
        · refine de_sub ?_ ?_
          · refine de_callR G h_c__law_take (by decide) (pv 0) ?_
            refine das_cons ?_ ?_
            · exact de_int
            · exact das_nil
          · exact de_int
        · refine das_cons ?_ ?_
          · refine de_sub ?_ ?_
            · refine de_callR G h_c__law_take (by decide) (pv 0) ?_
              refine das_cons ?_ ?_
              · exact de_int
              · exact das_nil
            · exact de_int
          · exact das_nil
      · refine das_cons ?_ ?_
        · refine de_callR G h_c__law_take (by decide) (pv 0) ?_
          refine das_cons ?_ ?_
          · exact de_int
          · exact das_nil
        · exact das_nil
    · refine dss_cons ?_ ?_
      · refine ds_if ?_ ?_ ?_
        · refine dt_eq G ?_ ?_
          · exact de_var (pv 3)
          · exact de_int
        · refine dss_one ?_
          refine ds_set (i := 2) G.nd rfl (.inl rfl) ?_
          refine de_tup ?_
          refine das_cons ?_ ?_
          · refine de_ix ?_ ?_
            · exact de_var (pv 2)
            · exact de_int
          · refine das_cons ?_ ?_
            · exact de_int
            · exact das_nil
        · exact dss_nil
      · refine dss_cons ?_ ?_
        · refine ds_if ?_ ?_ ?_
          · refine dt_eq G ?_ ?_
            · exact de_var (pv 3)
            · exact de_int
          · refine dss_one ?_
            refine ds_set (i := 2) G.nd rfl (.inl rfl) ?_
            refine de_tup ?_
            refine das_cons ?_ ?_
            · exact de_int
            · refine das_cons ?_ ?_
              · refine de_ix ?_ ?_
                · exact de_var (pv 2)
                · exact de_int
              · exact das_nil
          · exact dss_nil
        · refine dss_cons ?_ ?_
          · refine ds_set (i := 1) G.nd rfl (.inl rfl) ?_
            refine de_callR G h_c__law_one (by decide) (pv 0) ?_
            refine das_cons ?_ ?_
            · refine de_lst ?_
              refine das_cons ?_ ?_
              · exact de_int
              · refine das_cons ?_ ?_
                · exact de_int
                · refine das_cons ?_ ?_
                  · exact de_int
                  · refine das_cons ?_ ?_
                    · exact de_int
                    · refine das_cons ?_ ?_
                      · refine de_pow ?_ ?_
                        · exact de_int
                        · exact de_int
                      · exact das_nil
            · exact das_nil
          · refine dss_one ?_
            refine ds_ret ?_
            refine de_if ?_ ?_ ?_
            · refine dt_ne G ?_ ?_
              · exact de_var (pv 2)
              · refine de_tup ?_
                refine das_cons ?_ ?_
                · exact de_int
                · refine das_cons ?_ ?_
                  · exact de_int
                  · exact das_nil
            · refine de_tup ?_
              refine das_cons ?_ ?_
              · refine de_mul ?_ ?_
                · refine de_ix ?_ ?_
                  · exact de_var (pv 2)
                  · exact de_int
                · exact de_var (pv 1)
              · refine das_cons ?_ ?_
                · refine de_mul ?_ ?_
                  · refine de_ix ?_ ?_
                    · exact de_var (pv 2)
                    · exact de_int
                  · exact de_var (pv 1)
                · exact das_nil
            · refine de_tup ?_
              refine das_cons ?_ ?_
              · exact de_var (pv 1)
              · refine das_cons ?_ ?_
                · exact de_int
                · exact das_nil
abbrev s_is_direction : Stmt := topS 8
theorem sc_is_direction : FnScope ["value"] ["value"] (defScope s_is_direction) := ⟨rfl, rfl, rfl, by decide +kernel, rfl, by decide +kernel, by decide +kernel⟩
noncomputable def b_is_direction : DS :=
    (dRet (dAndV (dCall F_is_vector [(dVar 0)]) (dOp pyNe (dVar 0) (dTup [(dC (.int 0)), (dC (.int 0))]))))
noncomputable def F_is_direction : Fn := runF 1 b_is_direction
theorem ok_is_direction {P : Program} {w : World} {K : PySem.W.Frag} {mg : Str → Option Value} {base : Heap} {f : Addr} {fd : FuncData} (N : Nm mg) (F : Fun K "is_direction" "is_direction" s_is_direction f fd) (h_c_is_vector : Cal P w K mg base 3 "is_vector" 1 F_is_vector) :
    FnOk P w K mg base (L2.CX P w) 4 f fd ["value"] (spOf K mg 1 F_is_direction) 
    := fn_tells (k := 3) (body := b_is_direction) F sc_is_direction (by decide) (by decide) (by decide) fun cdv A outer s H E G => by
    refine dss_one ?_
    refine ds_ret ?_
    refine de_and ?_ ?_
    · refine de_call G h_c_is_vector (by decide) ?_
      refine das_cons ?_ ?_
      · exact de_var (pv 0)
      · exact das_nil
    · refine de_one ?_
      refine de_ne G ?_ ?_
      · exact de_var (pv 0)
      · refine de_tup ?_
        refine das_cons ?_ ?_
        · exact de_int
        · refine das_cons ?_ ?_
          · exact de_int
          · exact das_nil
abbrev s_need_direction : Stmt := topS 9
theorem sc_need_direction : FnScope ["vector"] ["vector"] (defScope s_need_direction) := ⟨rfl, rfl, rfl, by decide +kernel, rfl, by decide +kernel, by decide +kernel⟩
noncomputable def b_need_direction : DS :=
    (dIfS (dNot (dTruth (dCall F_is_direction [(dVar 0)]))) (dRaise "NoVector" "told" (dVar 0)) dPass)
noncomputable def F_need_direction : Fn := runF 1 b_need_direction
theorem ok_need_direction {P : Program} {w : World} {K : PySem.W.Frag} {mg : Str → Option Value} {base : Heap} {f : Addr} {fd : FuncData} (N : Nm mg) (F : Fun K "need_direction" "need_direction" s_need_direction f fd) (h_c_is_direction : Cal P w K mg base 4 "is_direction" 1 F_is_direction) (h_e_NoVector : Ecl P w K mg base "NoVector" "told") :
    FnOk P w K mg base (L2.CX P w) 5 f fd ["vector"] (spOf K mg 1 F_need_direction) 
    := fn_tells (k := 4) (body := b_need_direction) F sc_need_direction (by decide) (by decide) (by decide) fun cdv A outer s H E G => by
    refine dss_one ?_
    refine ds_if ?_ ?_ ?_
    · refine dt_not ?_
      refine dt_truth ?_
      refine de_call G h_c_is_direction (by decide) ?_
      refine das_cons ?_ ?_
      · exact de_var (pv 0)
      · exact das_nil
    · refine dss_one ?_
      refine ds_raise G (by decide) h_e_NoVector ?_
      exact de_var (pv 0)
    · exact dss_nil
abbrev s_comes_ahead : Stmt := topS 15
theorem sc_comes_ahead : FnScope ["one", "other"] ["one", "other"] (defScope s_comes_ahead) := ⟨rfl, rfl, rfl, by decide +kernel, rfl, by decide +kernel, by decide +kernel⟩
noncomputable def b_comes_ahead : DS :=
    (dSeq (dExpr (dCall F_need_direction [(dVar 0)]))
    (dSeq (dExpr (dCall F_need_direction [(dVar 1)]))
    (dRet (dCall F_is_slope_ahead [(dVar 0), (dVar 1)]))))
noncomputable def F_comes_ahead : Fn := runF 2 b_comes_ahead
theorem ok_comes_ahead {P : Program} {w : World} {K : PySem.W.Frag} {mg : Str → Option Value} {base : Heap} {f : Addr} {fd : FuncData} (N : Nm mg) (F : Fun K "comes_ahead" "comes_ahead" s_comes_ahead f fd) (h_c_is_slope_ahead : Cal P w K mg base 2 "is_slope_ahead" 2 F_is_slope_ahead) (h_c_need_direction : Cal P w K mg base 5 "need_direction" 1 F_need_direction) :
    FnOk P w K mg base (L2.CX P w) 6 f fd ["one", "other"] (spOf K mg 2 F_comes_ahead) 
    := fn_tells (k := 5) (body := b_comes_ahead) F sc_comes_ahead (by decide) (by decide) (by decide) fun cdv A outer s H E G => by
    refine dss_cons ?_ ?_
    · refine ds_expr ?_
      refine de_call G h_c_need_direction (by decide) ?_
      refine das_cons ?_ ?_
      · exact de_var (pv 0)
      · exact das_nil
    · refine dss_cons ?_ ?_
      · refine ds_expr ?_
        refine de_call G h_c_need_direction (by decide) ?_
        refine das_cons ?_ ?_
        · exact de_var (pv 1)
        · exact das_nil
      · refine dss_one ?_
        refine ds_ret ?_
        refine de_call G h_c_is_slope_ahead (by decide) ?_
        refine das_cons ?_ ?_
        · exact de_var (pv 0)
        · refine das_cons ?_ ?_
          · exact de_var (pv 1)
          · exact das_nil
abbrev s_same_slope : Stmt := topS 16
theorem sc_same_slope : FnScope ["one", "other"] ["one", "other"] (defScope s_same_slope) := ⟨rfl, rfl, rfl, by decide +kernel, rfl, by decide +kernel, by decide +kernel⟩
noncomputable def b_same_slope : DS :=
    (dSeq (dExpr (dCall F_need_direction [(dVar 0)]))
    (dSeq (dExpr (dCall F_need_direction [(dVar 1)]))
    (dRet (dCall F_is_slope_alike [(dVar 0), (dVar 1)]))))
noncomputable def F_same_slope : Fn := runF 2 b_same_slope
theorem ok_same_slope {P : Program} {w : World} {K : PySem.W.Frag} {mg : Str → Option Value} {base : Heap} {f : Addr} {fd : FuncData} (N : Nm mg) (F : Fun K "same_slope" "same_slope" s_same_slope f fd) (h_c_is_slope_alike : Cal P w K mg base 2 "is_slope_alike" 2 F_is_slope_alike) (h_c_need_direction : Cal P w K mg base 5 "need_direction" 1 F_need_direction) :
    FnOk P w K mg base (L2.CX P w) 6 f fd ["one", "other"] (spOf K mg 2 F_same_slope) 
    := fn_tells (k := 5) (body := b_same_slope) F sc_same_slope (by decide) (by decide) (by decide) fun cdv A outer s H E G => by
    refine dss_cons ?_ ?_
    · refine ds_expr ?_
      refine de_call G h_c_need_direction (by decide) ?_
      refine das_cons ?_ ?_
      · exact de_var (pv 0)
      · exact das_nil
    · refine dss_cons ?_ ?_
      · refine ds_expr ?_
        refine de_call G h_c_need_direction (by decide) ?_
        refine das_cons ?_ ?_
        · exact de_var (pv 1)
        · exact das_nil
      · refine dss_one ?_
        refine ds_ret ?_
        refine de_call G h_c_is_slope_alike (by decide) ?_
        refine das_cons ?_ ?_
        · exact de_var (pv 0)
        · refine das_cons ?_ ?_
          · exact de_var (pv 1)
          · exact das_nil
abbrev s_law : Stmt := topS 25
theorem sc_law : FnScope ["_law_script", "_law_k", "_law_source", "_law_vectors", "_law_first", "_law_second", "_law_turn", "_law_due", "_law_x", "_law_y"] ["_law_script"] (defScope s_law) := ⟨rfl, rfl, rfl, by decide +kernel, rfl, by decide +kernel, by decide +kernel⟩
noncomputable def b_law : DS :=
    (dSeq (dFor (dItA rng1 [(dCB pyMax2 [(dC (.int 1)), (dCB pyMin2 [(dLenO 0), (dC (.int 2))])])]) (gNm 1) (dSeq (dAsgO 2 (fCallS F__law_pool 0 [(dVar 1)]))
    (dSeq (dAsgO 3 (dLc (dItA rng1 [(dC (.int 6))]) (gNm 6) dYes (dCallS F__law_vector 2 []) [6]))
    (dSeq (dAsg (dOp pyAdd (dOp pyAdd (dVar 3) (dOfF (dLc (dIt itemsL (dSl (dVar 3) dNoP (dPrt (dC (.int 3))))) (gTp 2 (gsC (gNm 8) (gsC (gNm 9) gs0))) dYes (dTup [(dOp pySub (dC (.int 0)) (dVar 8)), (dOp pySub (dC (.int 0)) (dVar 9))]) [8, 9]))) (dOfF (dLc (dIt itemsL (dSl (dVar 3) dNoP (dPrt (dC (.int 2))))) (gTp 2 (gsC (gNm 8) (gsC (gNm 9) gs0))) dYes (dTup [(dOp pyMul (dC (.int 3)) (dVar 8)), (dOp pyMul (dC (.int 3)) (dVar 9))]) [8, 9]))) (gNm 3))
    (dSeq (dFor (dIt itemsL (dVar 3)) (gNm 4) (dFor (dIt itemsL (dVar 3)) (gNm 5) (dSeq (dAsg (dCall F__law_turn_order [(dVar 4), (dVar 5)]) (gNm 7))
    (dSeq (dIfS (dBool (dOp pyNe (dCall F_comes_ahead [(dVar 4), (dVar 5)]) (dOp pyLt (dVar 7) (dC (.int 0))))) (dRet (dC (.bool false))) dPass)
    (dIfS (dBool (dOp pyNe (dCallP F_same_slope [0, 1] [(dVar 4), (dVar 5)]) (dOp pyEq (dVar 7) (dC (.int 0))))) (dRet (dC (.bool false))) dPass)))))
    (dIfS (dBool (dOp pyNe (dCallP F_comes_ahead [0, 1] [(dTup [(dC (.int 1)), (dC (.int 0))]), (dOp pyIx (dVar 3) (dC (.int 0)))]) (dOp pyNe (dCall F__law_quarter [(dOp pyIx (dVar 3) (dC (.int 0)))]) (dTup [(dC (.int 0)), (dTup [(dC (.int 0)), (dOp pyIx (dOp pyIx (dVar 3) (dC (.int 0))) (dC (.int 0)))])])))) (dRet (dC (.bool false))) dPass))))))
    (dRet (dC (.bool true))))
noncomputable def F_law : Fn := runF 10 b_law
theorem ok_law {P : Program} {w : World} {K : PySem.W.Frag} {mg : Str → Option Value} {base : Heap} {f : Addr} {fd : FuncData} (N : Nm mg) (F : Fun K "law" "law" s_law f fd) (h_c__law_pool : Cal P w K mg base 1 "_law_pool" 2 F__law_pool) (h_c__law_quarter : Cal P w K mg base 1 "_law_quarter" 1 F__law_quarter) (h_c__law_turn_order : Cal P w K mg base 2 "_law_turn_order" 2 F__law_turn_order) (h_c__law_vector : Cal P w K mg base 3 "_law_vector" 1 F__law_vector) (h_c_comes_ahead : Cal P w K mg base 6 "comes_ahead" 2 F_comes_ahead) (h_k0_same_slope : CalK P w K mg base 6 "same_slope" 2 0 ["one", "other"] [0, 1] F_same_slope) (h_k1_comes_ahead : CalK P w K mg base 6 "comes_ahead" 2 0 ["one", "other"] [0, 1] F_comes_ahead) :
    FnOk P w K mg base (L2.CX P w) 7 f fd ["_law_script"] (spOf K mg 1 F_law) 
    := fn_tells (k := 6) (body := b_law) F sc_law (by decide) (by decide) (by decide) fun cdv A outer s H E G => by
    refine dss_cons ?_ ?_
    · refine ds_for G.own G.calm ?_ ?_ ?_
      · refine di_range1 N.n_range ?_
        refine das_cons ?_ ?_
        · refine de_max2 G N.n_max ?_
          refine das_cons ?_ ?_
          · exact de_int
          · refine das_cons ?_ ?_
            · refine de_min2 G N.n_min ?_
              refine das_cons ?_ ?_
              · exact de_lenO N.n_len (pv 0)
              · refine das_cons ?_ ?_
                · exact de_int
                · exact das_nil
            · exact das_nil
        · exact das_nil
      · exact dg_name (pg_name (i := 1) G.nd rfl (.inl rfl))
      · refine dss_cons ?_ ?_
        · refine ds_setO (i := 2) G.nd rfl (.inr rfl) ?_
          refine df_callR G h_c__law_pool (by decide) (pv 0) ?_
          refine das_cons ?_ ?_
          · exact de_var (pv 1)
          · exact das_nil
        · refine dss_cons ?_ ?_
          · refine ds_setLc (i := 3) (N0 := ["_law_script" , "_law_k" , "_law_source" , "_law_vectors" , "_law_first" , "_law_second" , "_law_turn" , "_law_due" , "_law_x" , "_law_y"]) (sc0 := defScope s_law) (own := [("_law_turn" , 6)]) G.calm G.nd rfl rfl rfl rfl (by decide +kernel) ?_ ?_ ?_ ?_
            · refine dig_range1 N.n_range ?_
              refine das_cons ?_ ?_
              · exact de_int
              · exact das_nil
            · intro s H C0 cl fp
              exact dgv_name (pg_name (i := 6) G.nd rfl (.inl rfl)) (by decide)
            · intro s H C0 cl fp
              exact dts_nil
            · intro s H C0 cl fp
              refine de_callR (gd_blk G) h_c__law_vector (by decide) (pv 2) ?_
              exact das_nil
          · refine dss_cons ?_ ?_
            · refine ds_set (i := 3) G.nd rfl (.inl rfl) ?_
              refine de_add ?_ ?_
              · refine de_add ?_ ?_
                · exact de_var (pv 3)
                · refine de_of_df ?_
                  refine df_lc (N0 := ["_law_script" , "_law_k" , "_law_source" , "_law_vectors" , "_law_first" , "_law_second" , "_law_turn" , "_law_due" , "_law_x" , "_law_y"]) (sc0 := defScope s_law) (own := [("_law_x" , 8) , ("_law_y" , 9)]) G.calm G.nd rfl rfl (by decide +kernel) ?_ ?_ ?_ ?_
                  · refine dig_list ?_
                    refine de_sl ?_ ?_ ?_
                    · exact de_var (pv 3)
                    · exact po_no
                    · refine po_of ?_
                      exact de_int
                  · intro s H C0 cl fp
                    refine dgv_tup G.calm ?_
                    refine dgvs_cons ?_ ?_
                    · exact dgv_name (pg_name (i := 8) G.nd rfl (.inl rfl)) (by decide)
                    · refine dgvs_cons ?_ ?_
                      · exact dgv_name (pg_name (i := 9) G.nd rfl (.inl rfl)) (by decide)
                      · exact dgvs_nil
                  · intro s H C0 cl fp
                    exact dts_nil
                  · intro s H C0 cl fp
                    refine de_tup ?_
                    refine das_cons ?_ ?_
                    · refine de_sub ?_ ?_
                      · exact de_int
                      · exact de_var (pv 8)
                    · refine das_cons ?_ ?_
                      · refine de_sub ?_ ?_
                        · exact de_int
                        · exact de_var (pv 9)
                      · exact das_nil
              · refine de_of_df ?_
                refine df_lc (N0 := ["_law_script" , "_law_k" , "_law_source" , "_law_vectors" , "_law_first" , "_law_second" , "_law_turn" , "_law_due" , "_law_x" , "_law_y"]) (sc0 := defScope s_law) (own := [("_law_x" , 8) , ("_law_y" , 9)]) G.calm G.nd rfl rfl (by decide +kernel) ?_ ?_ ?_ ?_
                · refine dig_list ?_
                  refine de_sl ?_ ?_ ?_
                  · exact de_var (pv 3)
                  · exact po_no
                  · refine po_of ?_
                    exact de_int
                · intro s H C0 cl fp
                  refine dgv_tup G.calm ?_
                  refine dgvs_cons ?_ ?_
                  · exact dgv_name (pg_name (i := 8) G.nd rfl (.inl rfl)) (by decide)
                  · refine dgvs_cons ?_ ?_
                    · exact dgv_name (pg_name (i := 9) G.nd rfl (.inl rfl)) (by decide)
                    · exact dgvs_nil
                · intro s H C0 cl fp
                  exact dts_nil
                · intro s H C0 cl fp
                  refine de_tup ?_
                  refine das_cons ?_ ?_
                  · refine de_mul ?_ ?_
                    · exact de_int
                    · exact de_var (pv 8)
                  · refine das_cons ?_ ?_
                    · refine de_mul ?_ ?_
                      · exact de_int
                      · exact de_var (pv 9)
                    · exact das_nil
            · refine dss_cons ?_ ?_
              · refine ds_for G.own G.calm ?_ ?_ ?_
                · refine di_list ?_
                  exact de_var (pv 3)
                · exact dg_name (pg_name (i := 4) G.nd rfl (.inl rfl))
                · refine dss_one ?_
                  refine ds_for G.own G.calm ?_ ?_ ?_
                  · refine di_list ?_
                    exact de_var (pv 3)
                  · exact dg_name (pg_name (i := 5) G.nd rfl (.inl rfl))
                  · refine dss_cons ?_ ?_
                    · refine ds_set (i := 7) G.nd rfl (.inl rfl) ?_
                      refine de_call G h_c__law_turn_order (by decide) ?_
                      refine das_cons ?_ ?_
                      · exact de_var (pv 4)
                      · refine das_cons ?_ ?_
                        · exact de_var (pv 5)
                        · exact das_nil
                    · refine dss_cons ?_ ?_
                      · refine ds_if ?_ ?_ ?_
                        · refine dt_ne G ?_ ?_
                          · refine de_call G h_c_comes_ahead (by decide) ?_
                            refine das_cons ?_ ?_
                            · exact de_var (pv 4)
                            · refine das_cons ?_ ?_
                              · exact de_var (pv 5)
                              · exact das_nil
                          · refine de_lt ?_ ?_
                            · exact de_var (pv 7)
                            · exact de_int
                        · refine dss_one ?_
                          refine ds_ret ?_
                          exact de_bl
                        · exact dss_nil
                      · refine dss_one ?_
                        refine ds_if ?_ ?_ ?_
                        · refine dt_ne G ?_ ?_
                          · refine de_callK0 G h_k0_same_slope (by decide) ?_
                            refine dks_cons ?_ ?_
                            · exact de_var (pv 4)
                            · refine dks_cons ?_ ?_
                              · exact de_var (pv 5)
                              · exact dks_nil
                          · refine de_eq G ?_ ?_
                            · exact de_var (pv 7)
                            · exact de_int
                        · refine dss_one ?_
                          refine ds_ret ?_
                          exact de_bl
                        · exact dss_nil
              · refine dss_one ?_
                refine ds_if ?_ ?_ ?_
                · refine dt_ne G ?_ ?_
                  · refine de_callK0 G h_k1_comes_ahead (by decide) ?_
                    refine dks_cons ?_ ?_
                    · refine de_tup ?_
                      refine das_cons ?_ ?_
                      · exact de_int
                      · refine das_cons ?_ ?_
                        · exact de_int
                        · exact das_nil
                    · refine dks_cons ?_ ?_
                      · refine de_ix ?_ ?_
                        · exact de_var (pv 3)
                        · exact de_int
                      · exact dks_nil
                  · refine de_ne G ?_ ?_
                    · refine de_call G h_c__law_quarter (by decide) ?_
                      refine das_cons ?_ ?_
                      · refine de_ix ?_ ?_
                        · exact de_var (pv 3)
                        · exact de_int
                      · exact das_nil
                    · refine de_tup ?_
                      refine das_cons ?_ ?_
                      · exact de_int
                      · refine das_cons ?_ ?_
                        · refine de_tup ?_
                          refine das_cons ?_ ?_
                          · exact de_int
                          · refine das_cons ?_ ?_
                            · refine de_ix ?_ ?_
                              · refine de_ix ?_ ?_
                                · exact de_var (pv 3)
                                · exact de_int
                              · exact de_int
                            · exact das_nil
                        · exact das_nil
                · refine dss_one ?_
                  refine ds_ret ?_
                  exact de_bl
                · exact dss_nil
    · refine dss_one ?_
      refine ds_ret ?_
      exact de_bl
abbrev si_ShapeError : Stmt := inClass (topS 1) 0
theorem sci_ShapeError : FnScope ["self", "told"] ["self", "told"] (defScope si_ShapeError) := ⟨rfl, rfl, rfl, by decide +kernel, rfl, by decide +kernel, by decide +kernel⟩
theorem oki_ShapeError {P : Program} {w : World} {K : PySem.W.Frag} {mg : Str → Option Value} {base : Heap} {f : Addr} {fd : FuncData} (N : Nm mg) (F : Fun K "__init__" "ShapeError.__init__" si_ShapeError f fd) (vV : PySem.W.findCls K (.type "ValueError") (.type "type") "__init__" = some (.val (.builtin "ValueError.__init__"))) :
    FnOk P w K mg base (L2.CX P w) 1 f fd ["self", "told"] (spInit K "told") := by
  refine F.okX sci_ShapeError (fun vs H Q E ⟨a, C, y, hv, _⟩ => by subst hv; rfl) (fun cdv A outer s H vs Q E hr ⟨a, C, y, hv, ha, T, no, q⟩ => ?_)
  subst hv
  refine ⟨_, pss_cons (ps_expr (pe_veinit rfl N.n_ValueError vV (pa_cons (pv 0) (pa_cons pe_str pa_nil)))) (pss_one (ps_ost (pv 0) (pv 1))), ?_⟩
  exact ⟨.ref a, rfl, a, C, [.str _], rfl, by decide, T, ha, y, rfl, .ref a, rfl, a, C, rfl, T, no, .inl ⟨ha, fun dx h1 h2 => q dx h1 h2⟩⟩
theorem all_mk {P : Program} {w : World} {K : PySem.W.Frag} {h : Heap} {mg : Str → Option Value} {fa : Addr} (X : K.In h) (G : h.Ns mainGlobals mg) (hfa : mg "law" = some (.ref fa))
    {f_is_number : Addr} {od_is_number an_is_number : Option Addr} {sl_is_number : Array (Option Value)} {oc_is_number kV_is_number dc_is_number pm_is_number cd_is_number ct_is_number' : Value}
    {f_cross : Addr} {od_cross an_cross : Option Addr} {sl_cross : Array (Option Value)} {oc_cross kV_cross dc_cross pm_cross cd_cross ct_cross' : Value}
    {f_dot : Addr} {od_dot an_dot : Option Addr} {sl_dot : Array (Option Value)} {oc_dot kV_dot dc_dot pm_dot cd_dot ct_dot' : Value}
    {f_is_upper : Addr} {od_is_upper an_is_upper : Option Addr} {sl_is_upper : Array (Option Value)} {oc_is_upper kV_is_upper dc_is_upper pm_is_upper cd_is_upper ct_is_upper' : Value}
    {f__law_pool : Addr} {od__law_pool an__law_pool : Option Addr} {sl__law_pool : Array (Option Value)} {oc__law_pool kV__law_pool dc__law_pool pm__law_pool cd__law_pool ct__law_pool' : Value}
    {f__law_take : Addr} {od__law_take an__law_take : Option Addr} {sl__law_take : Array (Option Value)} {oc__law_take kV__law_take dc__law_take pm__law_take cd__law_take ct__law_take' : Value}
    {f__law_sign : Addr} {od__law_sign an__law_sign : Option Addr} {sl__law_sign : Array (Option Value)} {oc__law_sign kV__law_sign dc__law_sign pm__law_sign cd__law_sign ct__law_sign' : Value}
    {f__law_quarter : Addr} {od__law_quarter an__law_quarter : Option Addr} {sl__law_quarter : Array (Option Value)} {oc__law_quarter kV__law_quarter dc__law_quarter pm__law_quarter cd__law_quarter ct__law_quarter' : Value}
    {f_is_number_pair : Addr} {od_is_number_pair an_is_number_pair : Option Addr} {sl_is_number_pair : Array (Option Value)} {oc_is_number_pair kV_is_number_pair dc_is_number_pair pm_is_number_pair cd_is_number_pair ct_is_number_pair' : Value}
    {f_is_slope_ahead : Addr} {od_is_slope_ahead an_is_slope_ahead : Option Addr} {sl_is_slope_ahead : Array (Option Value)} {oc_is_slope_ahead kV_is_slope_ahead dc_is_slope_ahead pm_is_slope_ahead cd_is_slope_ahead ct_is_slope_ahead' : Value}
    {f_is_slope_alike : Addr} {od_is_slope_alike an_is_slope_alike : Option Addr} {sl_is_slope_alike : Array (Option Value)} {oc_is_slope_alike kV_is_slope_alike dc_is_slope_alike pm_is_slope_alike cd_is_slope_alike ct_is_slope_alike' : Value}
    {f__law_one : Addr} {od__law_one an__law_one : Option Addr} {sl__law_one : Array (Option Value)} {oc__law_one kV__law_one dc__law_one pm__law_one cd__law_one ct__law_one' : Value}
    {f__law_turn_order : Addr} {od__law_turn_order an__law_turn_order : Option Addr} {sl__law_turn_order : Array (Option Value)} {oc__law_turn_order kV__law_turn_order dc__law_turn_order pm__law_turn_order cd__law_turn_order ct__law_turn_order' : Value}
    {f_is_vector : Addr} {od_is_vector an_is_vector : Option Addr} {sl_is_vector : Array (Option Value)} {oc_is_vector kV_is_vector dc_is_vector pm_is_vector cd_is_vector ct_is_vector' : Value}
    {f__law_vector : Addr} {od__law_vector an__law_vector : Option Addr} {sl__law_vector : Array (Option Value)} {oc__law_vector kV__law_vector dc__law_vector pm__law_vector cd__law_vector ct__law_vector' : Value}
    {f_is_direction : Addr} {od_is_direction an_is_direction : Option Addr} {sl_is_direction : Array (Option Value)} {oc_is_direction kV_is_direction dc_is_direction pm_is_direction cd_is_direction ct_is_direction' : Value}
    {f_need_direction : Addr} {od_need_direction an_need_direction : Option Addr} {sl_need_direction : Array (Option Value)} {oc_need_direction kV_need_direction dc_need_direction pm_need_direction cd_need_direction ct_need_direction' : Value}
    {f_comes_ahead : Addr} {od_comes_ahead an_comes_ahead : Option Addr} {sl_comes_ahead : Array (Option Value)} {oc_comes_ahead kV_comes_ahead dc_comes_ahead pm_comes_ahead cd_comes_ahead ct_comes_ahead' : Value}
    {f_same_slope : Addr} {od_same_slope an_same_slope : Option Addr} {sl_same_slope : Array (Option Value)} {oc_same_slope kV_same_slope dc_same_slope pm_same_slope cd_same_slope ct_same_slope' : Value}
    {f_law : Addr} {od_law an_law : Option Addr} {sl_law : Array (Option Value)} {oc_law kV_law dc_law pm_law cd_law ct_law' : Value}
    {C_ShapeError : Addr}
    {C_NoVector : Addr}
    {nm_NoVector q_NoVector : Str} {N_NoVector : Addr} {bs_NoVector bm_NoVector : List Value} {sn_NoVector : List Str} {sub_NoVector : List Value} {ab_NoVector : Bool} {col_NoVector : Option Bool} {dd_NoVector : Option Addr} {m0_NoVector m1_NoVector m2_NoVector m3_NoVector m5_NoVector : Option Value}
    {f_IShapeError : Addr} {od_IShapeError an_IShapeError : Option Addr} {sl_IShapeError : Array (Option Value)} {oc_IShapeError kV_IShapeError dc_IShapeError pm_IShapeError cd_IShapeError ct_IShapeError' : Value}
    (g_NoVector : PySem.W.nsIn K mainGlobals "NoVector" = some (some (.ref C_NoVector)))
    (g_ShapeError : PySem.W.nsIn K mainGlobals "ShapeError" = some (some (.ref C_ShapeError)))
    (z_abs : PySem.W.nsIn K mainGlobals "abs" = some none)
    (z_bool : PySem.W.nsIn K mainGlobals "bool" = some none)
    (z_int : PySem.W.nsIn K mainGlobals "int" = some none)
    (z_isinstance : PySem.W.nsIn K mainGlobals "isinstance" = some none)
    (z_len : PySem.W.nsIn K mainGlobals "len" = some none)
    (z_max : PySem.W.nsIn K mainGlobals "max" = some none)
    (z_min : PySem.W.nsIn K mainGlobals "min" = some none)
    (z_range : PySem.W.nsIn K mainGlobals "range" = some none)
    (z_tuple : PySem.W.nsIn K mainGlobals "tuple" = some none)
    (z_ValueError : PySem.W.nsIn K mainGlobals "ValueError" = some none)
    (zc_VECTOR_MOST : ∃ uv, mg "VECTOR_MOST" = some uv ∧ RelV (.int c_VECTOR_MOST) uv)
    (a_is_number : PySem.W.nsIn K mainGlobals "is_number" = some (some (.ref f_is_number)))
    (l_is_number : K.lookup f_is_number = some ⟨oc_is_number, od_is_number, .func (PySem.W.fnOf "is_number" "is_number" (defArgs s_is_number) (defBody s_is_number) (defScope s_is_number) .none kV_is_number dc_is_number pm_is_number an_is_number cd_is_number ct_is_number'), sl_is_number⟩)
    (c_is_number : PySem.W.codeIn K cd_is_number "is_number" = true)
    (k_is_number : PySem.W.keepIn K (.ref f_is_number) = true)
    (a_cross : PySem.W.nsIn K mainGlobals "cross" = some (some (.ref f_cross)))
    (l_cross : K.lookup f_cross = some ⟨oc_cross, od_cross, .func (PySem.W.fnOf "cross" "cross" (defArgs s_cross) (defBody s_cross) (defScope s_cross) .none kV_cross dc_cross pm_cross an_cross cd_cross ct_cross'), sl_cross⟩)
    (c_cross : PySem.W.codeIn K cd_cross "cross" = true)
    (k_cross : PySem.W.keepIn K (.ref f_cross) = true)
    (a_dot : PySem.W.nsIn K mainGlobals "dot" = some (some (.ref f_dot)))
    (l_dot : K.lookup f_dot = some ⟨oc_dot, od_dot, .func (PySem.W.fnOf "dot" "dot" (defArgs s_dot) (defBody s_dot) (defScope s_dot) .none kV_dot dc_dot pm_dot an_dot cd_dot ct_dot'), sl_dot⟩)
    (c_dot : PySem.W.codeIn K cd_dot "dot" = true)
    (k_dot : PySem.W.keepIn K (.ref f_dot) = true)
    (a_is_upper : PySem.W.nsIn K mainGlobals "is_upper" = some (some (.ref f_is_upper)))
    (l_is_upper : K.lookup f_is_upper = some ⟨oc_is_upper, od_is_upper, .func (PySem.W.fnOf "is_upper" "is_upper" (defArgs s_is_upper) (defBody s_is_upper) (defScope s_is_upper) .none kV_is_upper dc_is_upper pm_is_upper an_is_upper cd_is_upper ct_is_upper'), sl_is_upper⟩)
    (c_is_upper : PySem.W.codeIn K cd_is_upper "is_upper" = true)
    (k_is_upper : PySem.W.keepIn K (.ref f_is_upper) = true)
    (a__law_pool : PySem.W.nsIn K mainGlobals "_law_pool" = some (some (.ref f__law_pool)))
    (l__law_pool : K.lookup f__law_pool = some ⟨oc__law_pool, od__law_pool, .func (PySem.W.fnOf "_law_pool" "_law_pool" (defArgs s__law_pool) (defBody s__law_pool) (defScope s__law_pool) .none kV__law_pool dc__law_pool pm__law_pool an__law_pool cd__law_pool ct__law_pool'), sl__law_pool⟩)
    (c__law_pool : PySem.W.codeIn K cd__law_pool "_law_pool" = true)
    (k__law_pool : PySem.W.keepIn K (.ref f__law_pool) = true)
    (a__law_take : PySem.W.nsIn K mainGlobals "_law_take" = some (some (.ref f__law_take)))
    (l__law_take : K.lookup f__law_take = some ⟨oc__law_take, od__law_take, .func (PySem.W.fnOf "_law_take" "_law_take" (defArgs s__law_take) (defBody s__law_take) (defScope s__law_take) .none kV__law_take dc__law_take pm__law_take an__law_take cd__law_take ct__law_take'), sl__law_take⟩)
    (c__law_take : PySem.W.codeIn K cd__law_take "_law_take" = true)
    (k__law_take : PySem.W.keepIn K (.ref f__law_take) = true)
    (a__law_sign : PySem.W.nsIn K mainGlobals "_law_sign" = some (some (.ref f__law_sign)))
    (l__law_sign : K.lookup f__law_sign = some ⟨oc__law_sign, od__law_sign, .func (PySem.W.fnOf "_law_sign" "_law_sign" (defArgs s__law_sign) (defBody s__law_sign) (defScope s__law_sign) .none kV__law_sign dc__law_sign pm__law_sign an__law_sign cd__law_sign ct__law_sign'), sl__law_sign⟩)
    (c__law_sign : PySem.W.codeIn K cd__law_sign "_law_sign" = true)
    (k__law_sign : PySem.W.keepIn K (.ref f__law_sign) = true)
    (a__law_quarter : PySem.W.nsIn K mainGlobals "_law_quarter" = some (some (.ref f__law_quarter)))
    (l__law_quarter : K.lookup f__law_quarter = some ⟨oc__law_quarter, od__law_quarter, .func (PySem.W.fnOf "_law_quarter" "_law_quarter" (defArgs s__law_quarter) (defBody s__law_quarter) (defScope s__law_quarter) .none kV__law_quarter dc__law_quarter pm__law_quarter an__law_quarter cd__law_quarter ct__law_quarter'), sl__law_quarter⟩)
    (c__law_quarter : PySem.W.codeIn K cd__law_quarter "_law_quarter" = true)
    (k__law_quarter : PySem.W.keepIn K (.ref f__law_quarter) = true)
    (a_is_number_pair : PySem.W.nsIn K mainGlobals "is_number_pair" = some (some (.ref f_is_number_pair)))
    (l_is_number_pair : K.lookup f_is_number_pair = some ⟨oc_is_number_pair, od_is_number_pair, .func (PySem.W.fnOf "is_number_pair" "is_number_pair" (defArgs s_is_number_pair) (defBody s_is_number_pair) (defScope s_is_number_pair) .none kV_is_number_pair dc_is_number_pair pm_is_number_pair an_is_number_pair cd_is_number_pair ct_is_number_pair'), sl_is_number_pair⟩)
    (c_is_number_pair : PySem.W.codeIn K cd_is_number_pair "is_number_pair" = true)
    (k_is_number_pair : PySem.W.keepIn K (.ref f_is_number_pair) = true)
    (a_is_slope_ahead : PySem.W.nsIn K mainGlobals "is_slope_ahead" = some (some (.ref f_is_slope_ahead)))
    (l_is_slope_ahead : K.lookup f_is_slope_ahead = some ⟨oc_is_slope_ahead, od_is_slope_ahead, .func (PySem.W.fnOf "is_slope_ahead" "is_slope_ahead" (defArgs s_is_slope_ahead) (defBody s_is_slope_ahead) (defScope s_is_slope_ahead) .none kV_is_slope_ahead dc_is_slope_ahead pm_is_slope_ahead an_is_slope_ahead cd_is_slope_ahead ct_is_slope_ahead'), sl_is_slope_ahead⟩)
    (c_is_slope_ahead : PySem.W.codeIn K cd_is_slope_ahead "is_slope_ahead" = true)
    (k_is_slope_ahead : PySem.W.keepIn K (.ref f_is_slope_ahead) = true)
    (a_is_slope_alike : PySem.W.nsIn K mainGlobals "is_slope_alike" = some (some (.ref f_is_slope_alike)))
    (l_is_slope_alike : K.lookup f_is_slope_alike = some ⟨oc_is_slope_alike, od_is_slope_alike, .func (PySem.W.fnOf "is_slope_alike" "is_slope_alike" (defArgs s_is_slope_alike) (defBody s_is_slope_alike) (defScope s_is_slope_alike) .none kV_is_slope_alike dc_is_slope_alike pm_is_slope_alike an_is_slope_alike cd_is_slope_alike ct_is_slope_alike'), sl_is_slope_alike⟩)
    (c_is_slope_alike : PySem.W.codeIn K cd_is_slope_alike "is_slope_alike" = true)
    (k_is_slope_alike : PySem.W.keepIn K (.ref f_is_slope_alike) = true)
    (a__law_one : PySem.W.nsIn K mainGlobals "_law_one" = some (some (.ref f__law_one)))
    (l__law_one : K.lookup f__law_one = some ⟨oc__law_one, od__law_one, .func (PySem.W.fnOf "_law_one" "_law_one" (defArgs s__law_one) (defBody s__law_one) (defScope s__law_one) .none kV__law_one dc__law_one pm__law_one an__law_one cd__law_one ct__law_one'), sl__law_one⟩)
    (c__law_one : PySem.W.codeIn K cd__law_one "_law_one" = true)
    (k__law_one : PySem.W.keepIn K (.ref f__law_one) = true)
    (a__law_turn_order : PySem.W.nsIn K mainGlobals "_law_turn_order" = some (some (.ref f__law_turn_order)))
    (l__law_turn_order : K.lookup f__law_turn_order = some ⟨oc__law_turn_order, od__law_turn_order, .func (PySem.W.fnOf "_law_turn_order" "_law_turn_order" (defArgs s__law_turn_order) (defBody s__law_turn_order) (defScope s__law_turn_order) .none kV__law_turn_order dc__law_turn_order pm__law_turn_order an__law_turn_order cd__law_turn_order ct__law_turn_order'), sl__law_turn_order⟩)
    (c__law_turn_order : PySem.W.codeIn K cd__law_turn_order "_law_turn_order" = true)
    (k__law_turn_order : PySem.W.keepIn K (.ref f__law_turn_order) = true)
    (a_is_vector : PySem.W.nsIn K mainGlobals "is_vector" = some (some (.ref f_is_vector)))
    (l_is_vector : K.lookup f_is_vector = some ⟨oc_is_vector, od_is_vector, .func (PySem.W.fnOf "is_vector" "is_vector" (defArgs s_is_vector) (defBody s_is_vector) (defScope s_is_vector) .none kV_is_vector dc_is_vector pm_is_vector an_is_vector cd_is_vector ct_is_vector'), sl_is_vector⟩)
    (c_is_vector : PySem.W.codeIn K cd_is_vector "is_vector" = true)
    (k_is_vector : PySem.W.keepIn K (.ref f_is_vector) = true)
    (a__law_vector : PySem.W.nsIn K mainGlobals "_law_vector" = some (some (.ref f__law_vector)))
    (l__law_vector : K.lookup f__law_vector = some ⟨oc__law_vector, od__law_vector, .func (PySem.W.fnOf "_law_vector" "_law_vector" (defArgs s__law_vector) (defBody s__law_vector) (defScope s__law_vector) .none kV__law_vector dc__law_vector pm__law_vector an__law_vector cd__law_vector ct__law_vector'), sl__law_vector⟩)
    (c__law_vector : PySem.W.codeIn K cd__law_vector "_law_vector" = true)
    (k__law_vector : PySem.W.keepIn K (.ref f__law_vector) = true)
    (a_is_direction : PySem.W.nsIn K mainGlobals "is_direction" = some (some (.ref f_is_direction)))
    (l_is_direction : K.lookup f_is_direction = some ⟨oc_is_direction, od_is_direction, .func (PySem.W.fnOf "is_direction" "is_direction" (defArgs s_is_direction) (defBody s_is_direction) (defScope s_is_direction) .none kV_is_direction dc_is_direction pm_is_direction an_is_direction cd_is_direction ct_is_direction'), sl_is_direction⟩)
    (c_is_direction : PySem.W.codeIn K cd_is_direction "is_direction" = true)
    (k_is_direction : PySem.W.keepIn K (.ref f_is_direction) = true)
    (a_need_direction : PySem.W.nsIn K mainGlobals "need_direction" = some (some (.ref f_need_direction)))
    (l_need_direction : K.lookup f_need_direction = some ⟨oc_need_direction, od_need_direction, .func (PySem.W.fnOf "need_direction" "need_direction" (defArgs s_need_direction) (defBody s_need_direction) (defScope s_need_direction) .none kV_need_direction dc_need_direction pm_need_direction an_need_direction cd_need_direction ct_need_direction'), sl_need_direction⟩)
    (c_need_direction : PySem.W.codeIn K cd_need_direction "need_direction" = true)
    (k_need_direction : PySem.W.keepIn K (.ref f_need_direction) = true)
    (a_comes_ahead : PySem.W.nsIn K mainGlobals "comes_ahead" = some (some (.ref f_comes_ahead)))
    (l_comes_ahead : K.lookup f_comes_ahead = some ⟨oc_comes_ahead, od_comes_ahead, .func (PySem.W.fnOf "comes_ahead" "comes_ahead" (defArgs s_comes_ahead) (defBody s_comes_ahead) (defScope s_comes_ahead) .none kV_comes_ahead dc_comes_ahead pm_comes_ahead an_comes_ahead cd_comes_ahead ct_comes_ahead'), sl_comes_ahead⟩)
    (c_comes_ahead : PySem.W.codeIn K cd_comes_ahead "comes_ahead" = true)
    (k_comes_ahead : PySem.W.keepIn K (.ref f_comes_ahead) = true)
    (a_same_slope : PySem.W.nsIn K mainGlobals "same_slope" = some (some (.ref f_same_slope)))
    (l_same_slope : K.lookup f_same_slope = some ⟨oc_same_slope, od_same_slope, .func (PySem.W.fnOf "same_slope" "same_slope" (defArgs s_same_slope) (defBody s_same_slope) (defScope s_same_slope) .none kV_same_slope dc_same_slope pm_same_slope an_same_slope cd_same_slope ct_same_slope'), sl_same_slope⟩)
    (c_same_slope : PySem.W.codeIn K cd_same_slope "same_slope" = true)
    (k_same_slope : PySem.W.keepIn K (.ref f_same_slope) = true)
    (a_law : PySem.W.nsIn K mainGlobals "law" = some (some (.ref f_law)))
    (l_law : K.lookup f_law = some ⟨oc_law, od_law, .func (PySem.W.fnOf "law" "law" (defArgs s_law) (defBody s_law) (defScope s_law) .none kV_law dc_law pm_law an_law cd_law ct_law'), sl_law⟩)
    (c_law : PySem.W.codeIn K cd_law "law" = true)
    (k_law : PySem.W.keepIn K (.ref f_law) = true)
    (x_NoVector : K.lookup C_NoVector = some (excClassObj nm_NoVector q_NoVector C_NoVector N_NoVector bs_NoVector bm_NoVector true sn_NoVector sub_NoVector ab_NoVector col_NoVector dd_NoVector m0_NoVector m1_NoVector m2_NoVector m3_NoVector m5_NoVector "ValueError.__new__"))
    (r_NoVector : PySem.HandSPX.refsVE bm_NoVector = true)
    (sa_NoVector : PySem.W.findIn K (.ref C_NoVector) "__setattr__" = some (some (.builtin "object.__setattr__")))
    (ga_NoVector : PySem.W.findIn K (.ref C_NoVector) "__getattribute__" = some (some (.builtin "BaseException.__getattribute__")))
    (gg_NoVector : PySem.W.findIn K (.ref C_NoVector) "__getattr__" = some none)
    (nb_NoVector : PySem.W.findIn K (.ref C_NoVector) "told" = some none)
    (i_NoVector : PySem.W.findIn K (.ref C_NoVector) "__init__" = some (some (.ref f_IShapeError)))
    (kC_NoVector : PySem.W.keepIn K (.ref C_NoVector) = true)
    (eC_NoVector : PySem.W.subIn K (.ref C_NoVector) (.type "BaseException") = some true)
    (tC_NoVector : PySem.W.typeIn K (.ref C_NoVector) = some (.type "type"))
    (hC_NoVector : PySem.W.hasDictIn K C_NoVector = true)
    (l_IShapeError : K.lookup f_IShapeError = some ⟨oc_IShapeError, od_IShapeError, .func (PySem.W.fnOf "__init__" "ShapeError.__init__" (defArgs si_ShapeError) (defBody si_ShapeError) (defScope si_ShapeError) .none kV_IShapeError dc_IShapeError pm_IShapeError an_IShapeError cd_IShapeError ct_IShapeError'), sl_IShapeError⟩)
    (c_IShapeError : PySem.W.codeIn K cd_IShapeError "ShapeError.__init__" = true)
    (k_IShapeError : PySem.W.keepIn K (.ref f_IShapeError) = true)
    (t_IShapeError : PySem.W.typeIn K (.ref f_IShapeError) = some (.type "function"))
    (vV : PySem.W.findCls K (.type "ValueError") (.type "type") "__init__" = some (.val (.builtin "ValueError.__init__")))
    (hF : ∀ ns : List Int, ns.length ≤ 63 → ∃ as', F_law [.sc ns] = .val (.bool true) as') :
    ∃ fd : FuncData, (∀ (s : Shared) (v : Value), BindsTo s fd ⟨[v], []⟩ [("_law_script", v)]) ∧ ∀ base : Heap, K.In base → base.Ns mainGlobals mg → FnOk P w K mg base (L2.CX P w) 7 fa fd ["_law_script"] (spLaw K) := by
  have e := hfa.symm.trans (PySem.W.mg_of X G a_law)
  cases e
  have N : Nm mg := { n_abs := PySem.W.mg_none_of X G z_abs, n_bool := PySem.W.mg_none_of X G z_bool, n_int := PySem.W.mg_none_of X G z_int, n_isinstance := PySem.W.mg_none_of X G z_isinstance, n_len := PySem.W.mg_none_of X G z_len, n_max := PySem.W.mg_none_of X G z_max, n_min := PySem.W.mg_none_of X G z_min, n_range := PySem.W.mg_none_of X G z_range, n_tuple := PySem.W.mg_none_of X G z_tuple, n_ValueError := PySem.W.mg_none_of X G z_ValueError, m_VECTOR_MOST := zc_VECTOR_MOST }
  have D_is_number := fun_mk (st := s_is_number) l_is_number c_is_number k_is_number
  have D_cross := fun_mk (st := s_cross) l_cross c_cross k_cross
  have D_dot := fun_mk (st := s_dot) l_dot c_dot k_dot
  have D_is_upper := fun_mk (st := s_is_upper) l_is_upper c_is_upper k_is_upper
  have D__law_pool := fun_mk (st := s__law_pool) l__law_pool c__law_pool k__law_pool
  have D__law_take := fun_mk (st := s__law_take) l__law_take c__law_take k__law_take
  have D__law_sign := fun_mk (st := s__law_sign) l__law_sign c__law_sign k__law_sign
  have D__law_quarter := fun_mk (st := s__law_quarter) l__law_quarter c__law_quarter k__law_quarter
  have D_is_number_pair := fun_mk (st := s_is_number_pair) l_is_number_pair c_is_number_pair k_is_number_pair
  have D_is_slope_ahead := fun_mk (st := s_is_slope_ahead) l_is_slope_ahead c_is_slope_ahead k_is_slope_ahead
  have D_is_slope_alike := fun_mk (st := s_is_slope_alike) l_is_slope_alike c_is_slope_alike k_is_slope_alike
  have D__law_one := fun_mk (st := s__law_one) l__law_one c__law_one k__law_one
  have D__law_turn_order := fun_mk (st := s__law_turn_order) l__law_turn_order c__law_turn_order k__law_turn_order
  have D_is_vector := fun_mk (st := s_is_vector) l_is_vector c_is_vector k_is_vector
  have D__law_vector := fun_mk (st := s__law_vector) l__law_vector c__law_vector k__law_vector
  have D_is_direction := fun_mk (st := s_is_direction) l_is_direction c_is_direction k_is_direction
  have D_need_direction := fun_mk (st := s_need_direction) l_need_direction c_need_direction k_need_direction
  have D_comes_ahead := fun_mk (st := s_comes_ahead) l_comes_ahead c_comes_ahead k_comes_ahead
  have D_same_slope := fun_mk (st := s_same_slope) l_same_slope c_same_slope k_same_slope
  have D_law := fun_mk (st := s_law) l_law c_law k_law
  have D_IShapeError := fun_mk (x := "__init__") (qual := "ShapeError.__init__") (st := si_ShapeError) l_IShapeError c_IShapeError k_IShapeError
  refine ⟨PySem.W.fnOf "law" "law" (defArgs s_law) (defBody s_law) (defScope s_law) .none kV_law dc_law pm_law an_law cd_law ct_law', fun s v => .of_eq rfl, fun base _ _ => ?_⟩
  have h_g_NoVector := PySem.W.mg_of X G g_NoVector
  have h_e_NoVector : Ecl P w K mg base "NoVector" "told" := ⟨C_NoVector, { gC := h_g_NoVector, ox := ⟨⟨nm_NoVector, q_NoVector, N_NoVector, bs_NoVector, bm_NoVector, sn_NoVector, sub_NoVector, ab_NoVector, col_NoVector, dd_NoVector, m0_NoVector, m1_NoVector, m2_NoVector, m3_NoVector, m5_NoVector, x_NoVector, r_NoVector⟩, sa_NoVector, eC_NoVector, tC_NoVector, kC_NoVector⟩, xf := ⟨ga_NoVector, gg_NoVector, eC_NoVector, hC_NoVector⟩, no := nb_NoVector, ini := ⟨f_IShapeError, _, _, i_NoVector, t_IShapeError, oki_ShapeError N D_IShapeError vV, D_IShapeError.binds (ps := ["self", "told"]) fun _ _ _ _ _ _ us hl => match us, hl with | [_, _], _ => rfl⟩ }⟩
  have h_g_ShapeError := PySem.W.mg_of X G g_ShapeError
  have o_is_number := ok_is_number (P := P) (w := w) (base := base) N D_is_number
  have h_c_is_number : Cal P w K mg base 1 "is_number" 1 F_is_number := ⟨f_is_number, _, _, o_is_number, PySem.W.mg_of X G a_is_number, k_is_number, D_is_number.binds (ps := ["value"]) fun _ _ _ _ _ _ us hl => match us, hl with | [_], _ => rfl⟩
  have o_cross := ok_cross (P := P) (w := w) (base := base) N D_cross
  have h_c_cross : Cal P w K mg base 1 "cross" 2 F_cross := ⟨f_cross, _, _, o_cross, PySem.W.mg_of X G a_cross, k_cross, D_cross.binds (ps := ["one", "other"]) fun _ _ _ _ _ _ us hl => match us, hl with | [_, _], _ => rfl⟩
  have o_dot := ok_dot (P := P) (w := w) (base := base) N D_dot
  have h_c_dot : Cal P w K mg base 1 "dot" 2 F_dot := ⟨f_dot, _, _, o_dot, PySem.W.mg_of X G a_dot, k_dot, D_dot.binds (ps := ["one", "other"]) fun _ _ _ _ _ _ us hl => match us, hl with | [_, _], _ => rfl⟩
  have o_is_upper := ok_is_upper (P := P) (w := w) (base := base) N D_is_upper
  have h_c_is_upper : Cal P w K mg base 1 "is_upper" 1 F_is_upper := ⟨f_is_upper, _, _, o_is_upper, PySem.W.mg_of X G a_is_upper, k_is_upper, D_is_upper.binds (ps := ["vector"]) fun _ _ _ _ _ _ us hl => match us, hl with | [_], _ => rfl⟩
  have o__law_pool := ok__law_pool (P := P) (w := w) (base := base) N D__law_pool
  have h_c__law_pool : Cal P w K mg base 1 "_law_pool" 2 F__law_pool := ⟨f__law_pool, _, _, o__law_pool, PySem.W.mg_of X G a__law_pool, k__law_pool, D__law_pool.binds (ps := ["_law_script", "_law_k"]) fun _ _ _ _ _ _ us hl => match us, hl with | [_, _], _ => rfl⟩
  have o__law_take := ok__law_take (P := P) (w := w) (base := base) N D__law_take
  have h_c__law_take : Cal P w K mg base 1 "_law_take" 2 F__law_take := ⟨f__law_take, _, _, o__law_take, PySem.W.mg_of X G a__law_take, k__law_take, D__law_take.binds (ps := ["_law_source", "_law_top"]) fun _ _ _ _ _ _ us hl => match us, hl with | [_, _], _ => rfl⟩
  have o__law_sign := ok__law_sign (P := P) (w := w) (base := base) N D__law_sign
  have h_c__law_sign : Cal P w K mg base 1 "_law_sign" 2 F__law_sign := ⟨f__law_sign, _, _, o__law_sign, PySem.W.mg_of X G a__law_sign, k__law_sign, D__law_sign.binds (ps := ["_law_one_it", "_law_other_it"]) fun _ _ _ _ _ _ us hl => match us, hl with | [_, _], _ => rfl⟩
  have o__law_quarter := ok__law_quarter (P := P) (w := w) (base := base) N D__law_quarter
  have h_c__law_quarter : Cal P w K mg base 1 "_law_quarter" 1 F__law_quarter := ⟨f__law_quarter, _, _, o__law_quarter, PySem.W.mg_of X G a__law_quarter, k__law_quarter, D__law_quarter.binds (ps := ["_law_vector_here"]) fun _ _ _ _ _ _ us hl => match us, hl with | [_], _ => rfl⟩
  have o_is_number_pair := ok_is_number_pair (P := P) (w := w) (base := base) N D_is_number_pair h_c_is_number
  have h_c_is_number_pair : Cal P w K mg base 2 "is_number_pair" 1 F_is_number_pair := ⟨f_is_number_pair, _, _, o_is_number_pair, PySem.W.mg_of X G a_is_number_pair, k_is_number_pair, D_is_number_pair.binds (ps := ["value"]) fun _ _ _ _ _ _ us hl => match us, hl with | [_], _ => rfl⟩
  have o_is_slope_ahead := ok_is_slope_ahead (P := P) (w := w) (base := base) N D_is_slope_ahead h_c_cross h_c_is_upper
  have h_c_is_slope_ahead : Cal P w K mg base 2 "is_slope_ahead" 2 F_is_slope_ahead := ⟨f_is_slope_ahead, _, _, o_is_slope_ahead, PySem.W.mg_of X G a_is_slope_ahead, k_is_slope_ahead, D_is_slope_ahead.binds (ps := ["one", "other"]) fun _ _ _ _ _ _ us hl => match us, hl with | [_, _], _ => rfl⟩
  have o_is_slope_alike := ok_is_slope_alike (P := P) (w := w) (base := base) N D_is_slope_alike h_c_cross h_c_dot
  have h_c_is_slope_alike : Cal P w K mg base 2 "is_slope_alike" 2 F_is_slope_alike := ⟨f_is_slope_alike, _, _, o_is_slope_alike, PySem.W.mg_of X G a_is_slope_alike, k_is_slope_alike, D_is_slope_alike.binds (ps := ["one", "other"]) fun _ _ _ _ _ _ us hl => match us, hl with | [_, _], _ => rfl⟩
  have o__law_one := ok__law_one (P := P) (w := w) (base := base) N D__law_one h_c__law_take
  have h_c__law_one : Cal P w K mg base 2 "_law_one" 2 F__law_one := ⟨f__law_one, _, _, o__law_one, PySem.W.mg_of X G a__law_one, k__law_one, D__law_one.binds (ps := ["_law_source", "_law_things"]) fun _ _ _ _ _ _ us hl => match us, hl with | [_, _], _ => rfl⟩
  have o__law_turn_order := ok__law_turn_order (P := P) (w := w) (base := base) N D__law_turn_order h_c__law_quarter h_c__law_sign
  have h_c__law_turn_order : Cal P w K mg base 2 "_law_turn_order" 2 F__law_turn_order := ⟨f__law_turn_order, _, _, o__law_turn_order, PySem.W.mg_of X G a__law_turn_order, k__law_turn_order, D__law_turn_order.binds (ps := ["_law_one_it", "_law_other_it"]) fun _ _ _ _ _ _ us hl => match us, hl with | [_, _], _ => rfl⟩
  have o_is_vector := ok_is_vector (P := P) (w := w) (base := base) N D_is_vector h_c_is_number_pair
  have h_c_is_vector : Cal P w K mg base 3 "is_vector" 1 F_is_vector := ⟨f_is_vector, _, _, o_is_vector, PySem.W.mg_of X G a_is_vector, k_is_vector, D_is_vector.binds (ps := ["value"]) fun _ _ _ _ _ _ us hl => match us, hl with | [_], _ => rfl⟩
  have o__law_vector := ok__law_vector (P := P) (w := w) (base := base) N D__law_vector h_c__law_one h_c__law_take
  have h_c__law_vector : Cal P w K mg base 3 "_law_vector" 1 F__law_vector := ⟨f__law_vector, _, _, o__law_vector, PySem.W.mg_of X G a__law_vector, k__law_vector, D__law_vector.binds (ps := ["_law_source"]) fun _ _ _ _ _ _ us hl => match us, hl with | [_], _ => rfl⟩
  have o_is_direction := ok_is_direction (P := P) (w := w) (base := base) N D_is_direction h_c_is_vector
  have h_c_is_direction : Cal P w K mg base 4 "is_direction" 1 F_is_direction := ⟨f_is_direction, _, _, o_is_direction, PySem.W.mg_of X G a_is_direction, k_is_direction, D_is_direction.binds (ps := ["value"]) fun _ _ _ _ _ _ us hl => match us, hl with | [_], _ => rfl⟩
  have o_need_direction := ok_need_direction (P := P) (w := w) (base := base) N D_need_direction h_c_is_direction h_e_NoVector
  have h_c_need_direction : Cal P w K mg base 5 "need_direction" 1 F_need_direction := ⟨f_need_direction, _, _, o_need_direction, PySem.W.mg_of X G a_need_direction, k_need_direction, D_need_direction.binds (ps := ["vector"]) fun _ _ _ _ _ _ us hl => match us, hl with | [_], _ => rfl⟩
  have o_comes_ahead := ok_comes_ahead (P := P) (w := w) (base := base) N D_comes_ahead h_c_is_slope_ahead h_c_need_direction
  have h_c_comes_ahead : Cal P w K mg base 6 "comes_ahead" 2 F_comes_ahead := ⟨f_comes_ahead, _, _, o_comes_ahead, PySem.W.mg_of X G a_comes_ahead, k_comes_ahead, D_comes_ahead.binds (ps := ["one", "other"]) fun _ _ _ _ _ _ us hl => match us, hl with | [_, _], _ => rfl⟩
  have h_k1_comes_ahead : CalK P w K mg base 6 "comes_ahead" 2 0 ["one", "other"] [0, 1] F_comes_ahead := ⟨f_comes_ahead, _, _, o_comes_ahead, PySem.W.mg_of X G a_comes_ahead, k_comes_ahead, kb_mk (by decide) rfl fun us ws h1 h2 => match us, ws, h1, h2 with | [], [_, _], _, _ => rfl⟩
  have o_same_slope := ok_same_slope (P := P) (w := w) (base := base) N D_same_slope h_c_is_slope_alike h_c_need_direction
  have h_c_same_slope : Cal P w K mg base 6 "same_slope" 2 F_same_slope := ⟨f_same_slope, _, _, o_same_slope, PySem.W.mg_of X G a_same_slope, k_same_slope, D_same_slope.binds (ps := ["one", "other"]) fun _ _ _ _ _ _ us hl => match us, hl with | [_, _], _ => rfl⟩
  have h_k0_same_slope : CalK P w K mg base 6 "same_slope" 2 0 ["one", "other"] [0, 1] F_same_slope := ⟨f_same_slope, _, _, o_same_slope, PySem.W.mg_of X G a_same_slope, k_same_slope, kb_mk (by decide) rfl fun us ws h1 h2 => match us, ws, h1, h2 with | [], [_, _], _, _ => rfl⟩
  have o_law := ok_law (P := P) (w := w) (base := base) N D_law h_c__law_pool h_c__law_quarter h_c__law_turn_order h_c__law_vector h_c_comes_ahead h_k0_same_slope h_k1_comes_ahead
  exact law_end o_law hF
end Lw

namespace Lw
open PySem PySem.Spec PyProof.Rows L2 TL
theorem take_F (s : Src) (t : Int) (h : 0 < t) (hl : t.natAbs.log2 < 9000) : F__law_take [.io s.l, .pv (.int t)] = .val (.int (s.draw t).1) [.io (s.draw t).2.l, .pv (.int t)] := take_eq s t h hl
theorem one_F (s : Src) (ds : List PyData) (n : Nat) (hn : ds.length = n) (h0 : 0 < n) (h1 : n ≤ 1000000) : F__law_one [.io s.l, .pv (.list ds)] = .val (ds.getD (s.one n).1 .none) [.io (s.one n).2.l, .pv (.list ds)] := by
  subst hn
  exact one_eq s ds h0 h1
theorem pool_F (ns : List Int) (k : Nat) (hk : k ≤ 1000) : F__law_pool [.sc ns, .pv (.int k)] = .fresh (pool ns k).l [.sc ns, .pv (.int k)] := pool_eq ns k hk
theorem isn {v : PyData} {b c : Bool} (h1 : isA "int" v = some b) (h2 : isA "bool" v = some c) : F_is_number [.pv v] = .val (.bool (b && !c)) [.pv v] := by
  refine runF_rt (n := 1) (e0 := [some (.pv v)]) (env := [some (.pv v)]) rfl ?_
  unfold b_is_number
  cases b <;> simp [h1, h2]
@[simp] theorem isn_int (n : Int) : F_is_number [.pv (.int n)] = .val (.bool true) [.pv (.int n)] := isn (isA_int_int n) (isA_bool_int n)
theorem isp_two (v w : PyData) (b c : Bool) (h1 : F_is_number [.pv v] = .val (.bool b) [.pv v]) (h2 : F_is_number [.pv w] = .val (.bool c) [.pv w]) : F_is_number_pair [.pv (.tuple [v, w])] = .val (.bool (b && c)) [.pv (.tuple [v, w])] := by
  refine runF_rt (n := 1) (e0 := [some (.pv (.tuple [v, w]))]) (env := [some (.pv (.tuple [v, w]))]) rfl ?_
  unfold b_is_number_pair
  cases b <;> simp [h1, h2]
/-- vectors -/
abbrev vt (a b : Int) : PyData := .tuple [.int a, .int b]
theorem abs_int (n : Int) : pyAbs [.int n] = some (.int (n.natAbs : Int)) := by
  show some (PyData.int (if n < 0 then -n else n)) = _
  congr 2
  split <;> omega
theorem cross_F (a b c d : Int) (h1 : pyMul (.int a) (.int d) = some (.int (a * d))) (h2 : pyMul (.int b) (.int c) = some (.int (b * c))) : F_cross [.pv (vt a b), .pv (vt c d)] = .val (.int (a * d - b * c)) [.pv (vt a b), .pv (vt c d)] := by
  refine runF_rt (n := 2) (e0 := [some (.pv (vt a b)), some (.pv (vt c d))]) (env := [some (.pv (vt a b)), some (.pv (vt c d))]) rfl ?_
  unfold b_cross
  simp [h1, h2]
theorem dot_F (a b c d : Int) (h1 : pyMul (.int a) (.int c) = some (.int (a * c))) (h2 : pyMul (.int b) (.int d) = some (.int (b * d))) : F_dot [.pv (vt a b), .pv (vt c d)] = .val (.int (a * c + b * d)) [.pv (vt a b), .pv (vt c d)] := by
  refine runF_rt (n := 2) (e0 := [some (.pv (vt a b)), some (.pv (vt c d))]) (env := [some (.pv (vt a b)), some (.pv (vt c d))]) rfl ?_
  unfold b_dot
  simp [h1, h2]
def upB (a b : Int) : Bool := decide (0 < b) || ((b == 0) && decide (0 < a))
theorem upper_F (a b : Int) : F_is_upper [.pv (vt a b)] = .val (.bool (upB a b)) [.pv (vt a b)] := by
  refine runF_rt (n := 1) (e0 := [some (.pv (vt a b))]) (env := [some (.pv (vt a b))]) rfl ?_
  unfold b_is_upper upB
  by_cases h1 : 0 < b
  · simp [h1]
  · by_cases h2 : b = 0
    · simp [h1, h2]
    · simp [h1, h2]
/-- the sizes that let all products -/
def Mul4 (a b c d : Int) : Prop := ∀ x ∈ [a, b], ∀ y ∈ [c, d], pyMul (.int x) (.int y) = some (.int (x * y))
theorem Mul4.of {a b c d : Int} (ha : Sz 300 a) (hb : Sz 300 b) (hc : Sz 300 c) (hd : Sz 300 d) : Mul4 a b c d := fun x hx y hy => by
  refine mul_int (Sz.mulOk (j := 300) (k := 300) ?_ ?_ (by decide) (by decide) (by decide))
  · simp only [List.mem_cons, List.not_mem_nil, or_false] at hx
    rcases hx with rfl | rfl <;> assumption
  · simp only [List.mem_cons, List.not_mem_nil, or_false] at hy
    rcases hy with rfl | rfl <;> assumption
def aheadB (a b c d : Int) : Bool := if upB a b = upB c d then decide (0 < a * d - b * c) else upB a b
def alikeB (a b c d : Int) : Bool := (a * d - b * c == 0) && decide (0 < a * c + b * d)
theorem ne_bool (b c : Bool) : pyNe (.bool b) (.bool c) = some (.bool (!decide (b = c))) := by cases b <;> cases c <;> rfl
theorem eq_bool (b c : Bool) : pyEq (.bool b) (.bool c) = some (.bool (decide (b = c))) := by cases b <;> cases c <;> rfl
theorem ahead_F (a b c d : Int) (h : Mul4 a b c d) : F_is_slope_ahead [.pv (vt a b), .pv (vt c d)] = .val (.bool (aheadB a b c d)) [.pv (vt a b), .pv (vt c d)] := by
  refine runF_rt (n := 2) (e0 := [some (.pv (vt a b)), some (.pv (vt c d))]) (env := [some (.pv (vt a b)), some (.pv (vt c d))]) rfl ?_
  have hx := cross_F a b c d (h a (by simp) d (by simp)) (h b (by simp) c (by simp))
  have u1 := upper_F a b
  have u2 := upper_F c d
  unfold b_is_slope_ahead aheadB
  by_cases hu : upB a b = upB c d
  · simp [u1, u2, hx, hu, ne_bool]
  · simp [u1, u2, hx, hu, ne_bool]
theorem alike_F (a b c d : Int) (h : Mul4 a b c d) : F_is_slope_alike [.pv (vt a b), .pv (vt c d)] = .val (.bool (alikeB a b c d)) [.pv (vt a b), .pv (vt c d)] := by
  refine runF_rt (n := 2) (e0 := [some (.pv (vt a b)), some (.pv (vt c d))]) (env := [some (.pv (vt a b)), some (.pv (vt c d))]) rfl ?_
  have hx := cross_F a b c d (h a (by simp) d (by simp)) (h b (by simp) c (by simp))
  have hy := dot_F a b c d (h a (by simp) c (by simp)) (h b (by simp) d (by simp))
  unfold b_is_slope_alike alikeB
  generalize a * d - b * c = x at *
  generalize a * c + b * d = y at *
  by_cases hu : x = 0
  · simp [hx, hy, hu]
  · simp [hx, hy, hu]
theorem isvec_F (a b : Int) (ha : (a.natAbs : Int) ≤ c_VECTOR_MOST) (hb : (b.natAbs : Int) ≤ c_VECTOR_MOST) : F_is_vector [.pv (vt a b)] = .val (.bool true) [.pv (vt a b)] := by
  refine runF_rt (n := 1) (e0 := [some (.pv (vt a b))]) (env := [some (.pv (vt a b))]) rfl ?_
  have h := isp_two (.int a) (.int b) true true (isn_int a) (isn_int b)
  unfold b_is_vector
  generalize c_VECTOR_MOST = M at *
  simp [h, abs_int]
  split <;> assumption
theorem dir_F (a b : Int) (ha : (a.natAbs : Int) ≤ c_VECTOR_MOST) (hb : (b.natAbs : Int) ≤ c_VECTOR_MOST) (h0 : ¬ (a = 0 ∧ b = 0)) : F_is_direction [.pv (vt a b)] = .val (.bool true) [.pv (vt a b)] := by
  refine runF_rt (n := 1) (e0 := [some (.pv (vt a b))]) (env := [some (.pv (vt a b))]) rfl ?_
  have h := isvec_F a b ha hb
  have hn : pyNe (vt a b) (vt 0 0) = some (.bool true) := by
    unfold pyNe
    rw [if_pos ⟨shp_pair a b, shp_pair 0 0⟩]
    have : PyData.eqv (vt a b) (vt 0 0) = false := by
      simp [PyData.eqv, PyData.eqvAll]
      omega
    rw [this]
    rfl
  unfold b_is_direction
  simp [h, hn]
theorem need_F (a b : Int) (ha : (a.natAbs : Int) ≤ c_VECTOR_MOST) (hb : (b.natAbs : Int) ≤ c_VECTOR_MOST) (h0 : ¬ (a = 0 ∧ b = 0)) : F_need_direction [.pv (vt a b)] = .val .none [.pv (vt a b)] := by
  refine runF_nx (n := 1) (e0 := [some (.pv (vt a b))]) (env := [some (.pv (vt a b))]) rfl ?_
  have h := dir_F a b ha hb h0
  unfold b_need_direction
  simp [h]
/-- a vector as the law draws them -/
def Vok (a b : Int) : Prop := Sz 200 a ∧ Sz 200 b ∧ ¬ (a = 0 ∧ b = 0)
end Lw

namespace Lw
open PySem PySem.Spec PyProof.Rows L2 TL
def qn (a b : Int) : Int := if 0 < a ∧ 0 ≤ b then 0 else if a ≤ 0 ∧ 0 < b then 1 else if a < 0 ∧ b ≤ 0 then 2 else 3
def qf (a b : Int) : Int := if 0 < a ∧ 0 ≤ b then b else if a ≤ 0 ∧ 0 < b then -a else if a < 0 ∧ b ≤ 0 then -b else a
def qs (a b : Int) : Int := if 0 < a ∧ 0 ≤ b then a else if a ≤ 0 ∧ 0 < b then b else if a < 0 ∧ b ≤ 0 then -a else -b
theorem quarter_F (a b : Int) : F__law_quarter [.pv (vt a b)] = .val (.tuple [.int (qn a b), vt (qf a b) (qs a b)]) [.pv (vt a b)] := by
  refine runF_rt (n := 3) (e0 := [some (.pv (vt a b)), none, none]) (env := [some (.pv (vt a b)), some (.pv (.int a)), some (.pv (.int b))]) rfl ?_
  unfold b__law_quarter
  refine (seq_nx (e1 := [some (.pv (vt a b)), some (.pv (.int a)), some (.pv (.int b))]) ?_).trans ?_
  · simp
  unfold qn qf qs
  by_cases h1 : 0 < a
  · by_cases h2 : 0 ≤ b
    · simp [h1, h2]
    · have h3 : ¬ a ≤ 0 := by omega
      have h4 : ¬ a < 0 := by omega
      simp [h1, h2, h3, h4]
  · by_cases h2 : 0 < b
    · have h3 : a ≤ 0 := by omega
      simp [h1, h2, h3]
    · by_cases h5 : a < 0
      · have h6 : b ≤ 0 := by omega
        simp [h1, h2, h5, h6]
      · simp [h1, h2, h5]
def sgn (x : Int) : Int := (if 0 < x then 1 else 0) - (if x < 0 then 1 else 0)
theorem sign_F (a b c d : Int) (h1 : pyMul (.int a) (.int d) = some (.int (a * d))) (h2 : pyMul (.int c) (.int b) = some (.int (c * b))) : F__law_sign [.pv (vt a b), .pv (vt c d)] = .val (.int (sgn (a * d - c * b))) [.pv (vt a b), .pv (vt c d)] := by
  refine runF_rt (n := 3) (e0 := [some (.pv (vt a b)), some (.pv (vt c d)), none]) (env := [some (.pv (vt a b)), some (.pv (vt c d)), some (.pv (.int (a * d - c * b)))]) rfl ?_
  unfold b__law_sign sgn
  refine (seq_nx (e1 := [some (.pv (vt a b)), some (.pv (vt c d)), some (.pv (.int (a * d - c * b)))]) ?_).trans ?_
  · simp [h1, h2]
  · simp
def turn (a b c d : Int) : Int := if qn a b = qn c d then sgn (qf a b * qs c d - qf c d * qs a b) else if qn a b < qn c d then -1 else 1
theorem qf_sz {k : Nat} {a b : Int} (ha : Sz k a) (hb : Sz k b) : Sz k (qf a b) := by
  unfold qf
  split
  · exact hb
  · split
    · exact ha.neg
    · split
      · exact hb.neg
      · exact ha
theorem qs_sz {k : Nat} {a b : Int} (ha : Sz k a) (hb : Sz k b) : Sz k (qs a b) := by
  unfold qs
  split
  · exact ha
  · split
    · exact hb
    · split
      · exact ha.neg
      · exact hb.neg
theorem turn_F (a b c d : Int) (ha : Sz 300 a) (hb : Sz 300 b) (hc : Sz 300 c) (hd : Sz 300 d) : F__law_turn_order [.pv (vt a b), .pv (vt c d)] = .val (.int (turn a b c d)) [.pv (vt a b), .pv (vt c d)] := by
  refine runF_rt (n := 4) (e0 := [some (.pv (vt a b)), some (.pv (vt c d)), none, none]) (env := [some (.pv (vt a b)), some (.pv (vt c d)), some (.pv (.tuple [.int (qn a b), vt (qf a b) (qs a b)])), some (.pv (.tuple [.int (qn c d), vt (qf c d) (qs c d)]))]) rfl ?_
  unfold b__law_turn_order turn
  refine (seq_nx (e1 := [some (.pv (vt a b)), some (.pv (vt c d)), some (.pv (.tuple [.int (qn a b), vt (qf a b) (qs a b)])), some (.pv (.tuple [.int (qn c d), vt (qf c d) (qs c d)]))]) ?_).trans ?_
  · simp [quarter_F]
  have m := Mul4.of (qf_sz ha hb) (qs_sz ha hb) (qf_sz hc hd) (qs_sz hc hd)
  have m2 := Mul4.of (qf_sz hc hd) (qs_sz hc hd) (qf_sz ha hb) (qs_sz ha hb)
  have hs := sign_F (qf a b) (qs a b) (qf c d) (qs c d) (m _ (by simp) _ (by simp)) (m2 _ (by simp) _ (by simp))
  by_cases h : qn a b = qn c d
  · simp [h, hs]
  · by_cases h2 : qn a b < qn c d
    · simp [h, h2]
    · simp [h, h2]
/-! the two orders are one -/
theorem quart (a b : Int) (h : ¬ (a = 0 ∧ b = 0)) : (0 < a ∧ 0 ≤ b ∧ qn a b = 0 ∧ qf a b = b ∧ qs a b = a ∧ upB a b = true) ∨ (a ≤ 0 ∧ 0 < b ∧ qn a b = 1 ∧ qf a b = -a ∧ qs a b = b ∧ upB a b = true) ∨
    (a < 0 ∧ b ≤ 0 ∧ qn a b = 2 ∧ qf a b = -b ∧ qs a b = -a ∧ upB a b = false) ∨ (0 ≤ a ∧ b < 0 ∧ qn a b = 3 ∧ qf a b = a ∧ qs a b = -b ∧ upB a b = false) := by
  unfold qn qf qs upB
  by_cases h1 : 0 < a
  · by_cases h2 : 0 ≤ b
    · refine .inl ⟨h1, h2, ?_⟩
      by_cases h3 : b = 0
      · simp [h1, h2, h3]
      · have : 0 < b := by omega
        simp [h1, h2, this]
    · refine .inr (.inr (.inr ⟨by omega, by omega, ?_⟩))
      have h3 : ¬ a ≤ 0 := by omega
      have h4 : ¬ a < 0 := by omega
      have h5 : ¬ 0 < b := by omega
      have h6 : b ≠ 0 := by omega
      simp [h2, h3, h4, h5, h6]
  · by_cases h2 : 0 < b
    · refine .inr (.inl ⟨by omega, h2, ?_⟩)
      have h3 : a ≤ 0 := by omega
      simp [h1, h2, h3]
    · by_cases h5 : a < 0
      · refine .inr (.inr (.inl ⟨h5, by omega, ?_⟩))
        have h6 : b ≤ 0 := by omega
        simp [h1, h2, h5, h6]
      · refine .inr (.inr (.inr ⟨by omega, by omega, ?_⟩))
        have h6 : b ≠ 0 := by omega
        simp [h1, h2, h5, h6]
theorem sgn_neg (x : Int) : (sgn x < 0 ↔ x < 0) ∧ (sgn x = 0 ↔ x = 0) := by
  unfold sgn
  constructor <;> split <;> split <;> omega
set_option maxHeartbeats 0 in
theorem turn_spec (a b c d : Int) (h1 : ¬ (a = 0 ∧ b = 0)) (h2 : ¬ (c = 0 ∧ d = 0)) : (turn a b c d < 0 ↔ aheadB a b c d = true) ∧ (turn a b c d = 0 ↔ alikeB a b c d = true) := by
  have e1 : c * b = b * c := Int.mul_comm _ _
  have e2 : d * a = a * d := Int.mul_comm _ _
  unfold turn aheadB alikeB
  rcases quart a b h1 with ⟨p1, p2, p3, p4, p5, p6⟩ | ⟨p1, p2, p3, p4, p5, p6⟩ | ⟨p1, p2, p3, p4, p5, p6⟩ | ⟨p1, p2, p3, p4, p5, p6⟩ <;>
  rcases quart c d h2 with ⟨q1, q2, q3, q4, q5, q6⟩ | ⟨q1, q2, q3, q4, q5, q6⟩ | ⟨q1, q2, q3, q4, q5, q6⟩ | ⟨q1, q2, q3, q4, q5, q6⟩ <;>
  (rw [p3, p4, p5, p6, q3, q4, q5, q6]
   (first | have P1 : 0 ≤ a := by omega | have P1 : a ≤ 0 := by omega)
   (first | have P2 : 0 ≤ b := by omega | have P2 : b ≤ 0 := by omega)
   (first | have Q1 : 0 ≤ c := by omega | have Q1 : c ≤ 0 := by omega)
   (first | have Q2 : 0 ≤ d := by omega | have Q2 : d ≤ 0 := by omega)
   (first | have f1 := Int.mul_pos p1 q2 | have f1 := Int.mul_pos_of_neg_of_neg p1 q2 | have f1 := Int.mul_neg_of_pos_of_neg p1 q2 | have f1 := Int.mul_neg_of_neg_of_pos p1 q2 | have f1 := Int.mul_nonneg P1 Q2 | have f1 := Int.mul_nonneg_of_nonpos_of_nonpos P1 Q2 | have f1 := Int.mul_nonpos_of_nonneg_of_nonpos P1 Q2 | have f1 := Int.mul_nonpos_of_nonpos_of_nonneg P1 Q2)
   (first | have f2 := Int.mul_pos p2 q1 | have f2 := Int.mul_pos_of_neg_of_neg p2 q1 | have f2 := Int.mul_neg_of_pos_of_neg p2 q1 | have f2 := Int.mul_neg_of_neg_of_pos p2 q1 | have f2 := Int.mul_nonneg P2 Q1 | have f2 := Int.mul_nonneg_of_nonpos_of_nonpos P2 Q1 | have f2 := Int.mul_nonpos_of_nonneg_of_nonpos P2 Q1 | have f2 := Int.mul_nonpos_of_nonpos_of_nonneg P2 Q1)
   (first | have f3 := Int.mul_pos p1 q1 | have f3 := Int.mul_pos_of_neg_of_neg p1 q1 | have f3 := Int.mul_neg_of_pos_of_neg p1 q1 | have f3 := Int.mul_neg_of_neg_of_pos p1 q1 | have f3 := Int.mul_nonneg P1 Q1 | have f3 := Int.mul_nonneg_of_nonpos_of_nonpos P1 Q1 | have f3 := Int.mul_nonpos_of_nonneg_of_nonpos P1 Q1 | have f3 := Int.mul_nonpos_of_nonpos_of_nonneg P1 Q1)
   (first | have f4 := Int.mul_pos p2 q2 | have f4 := Int.mul_pos_of_neg_of_neg p2 q2 | have f4 := Int.mul_neg_of_pos_of_neg p2 q2 | have f4 := Int.mul_neg_of_neg_of_pos p2 q2 | have f4 := Int.mul_nonneg P2 Q2 | have f4 := Int.mul_nonneg_of_nonpos_of_nonpos P2 Q2 | have f4 := Int.mul_nonpos_of_nonneg_of_nonpos P2 Q2 | have f4 := Int.mul_nonpos_of_nonpos_of_nonneg P2 Q2)
   simp only [Int.neg_mul, Int.mul_neg, Int.neg_neg, e1, e2]
   generalize a * d = X at *
   generalize b * c = Y at *
   generalize a * c = P at *
   generalize b * d = R at *
   clear p3 p4 p5 p6 q3 q4 q5 q6 h1 h2 e1 e2
   simp [(sgn_neg _).1, (sgn_neg _).2]
   try omega)
end Lw

namespace Lw
open PySem PySem.Spec PyProof.Rows L2 TL
theorem fiveV (Q : Int) (hQ : 1 ≤ Q ∧ Sz 190 Q) : ∀ j < 5, ∃ z, ([.int 1, .int 1, .int 2, .int 7, .int Q] : List PyData).getD j .none = .int z ∧ 1 ≤ z ∧ Sz 190 z
  | 0, _ => ⟨1, rfl, by decide, by decide⟩
  | 1, _ => ⟨1, rfl, by decide, by decide⟩
  | 2, _ => ⟨2, rfl, by decide, by decide⟩
  | 3, _ => ⟨7, rfl, by decide, by decide⟩
  | 4, _ => ⟨Q, rfl, hQ⟩
  | j + 5, h => absurd h (by omega)
theorem ne_zero (a b : Int) : pyNe (vt a b) (vt 0 0) = some (.bool (!(a == 0 && b == 0))) := by
  unfold pyNe
  rw [if_pos ⟨shp_pair a b, shp_pair 0 0⟩]
  simp [PyData.eqv, PyData.eqvAll]
theorem small_mul {x z : Int} (hx : -4 ≤ x ∧ x ≤ 4) (hz : Sz 190 z) : Sz 200 (x * z) := by
  have h : Sz 10 x := Sz.of (by omega) (by omega)
  exact h.mul hz
theorem vector_F (s : Src) : ∃ (a b : Int) (s' : Src), F__law_vector [.io s.l] = .val (vt a b) [.io s'.l] ∧ Vok a b := by
  obtain ⟨Q, hQ, hQ1⟩ : ∃ Q : Int, pyPow (.int 10) (.int 40) = some (.int Q) ∧ 1 ≤ Q ∧ Sz 190 Q := ⟨10 ^ 40, pow_int (by decide), by decide, by decide⟩
  have t1 := take_F s 9 (by decide) (by decide)
  have a1 := s.draw_nn (t := 9) (by decide)
  have a2 := s.draw_lt (t := 9) (by decide)
  generalize (s.draw 9).1 = x at t1 a1 a2
  generalize (s.draw 9).2 = s1 at t1
  have t2 := take_F s1 9 (by decide) (by decide)
  have b1 := s1.draw_nn (t := 9) (by decide)
  have b2 := s1.draw_lt (t := 9) (by decide)
  generalize (s1.draw 9).1 = y at t2 b1 b2
  generalize (s1.draw 9).2 = s2 at t2
  have t3 := take_F s2 6 (by decide) (by decide)
  generalize (s2.draw 6).1 = w at t3
  generalize (s2.draw 6).2 = s3 at t3
  have ho := one_F s3 [.int 1, .int 1, .int 2, .int 7, .int Q] 5 rfl (by decide) (by decide)
  obtain ⟨z, hz, hz1, hz2⟩ := fiveV Q hQ1 _ (s3.one_lt (n := 5) (by decide))
  rw [hz] at ho
  generalize (s3.one 5).2 = s4 at ho
  obtain ⟨u, hu, u1⟩ : ∃ u : Int, u = (if w = 1 then 0 else x - 4) ∧ (-4 ≤ u ∧ u ≤ 4) := ⟨_, rfl, by split <;> omega⟩
  obtain ⟨v, hv, v1⟩ : ∃ v : Int, v = (if w = 0 then 0 else y - 4) ∧ (-4 ≤ v ∧ v ≤ 4) := ⟨_, rfl, by split <;> omega⟩
  have m1 : pyMul (.int u) (.int z) = some (.int (u * z)) := mul_int (.left (by omega))
  have m2 : pyMul (.int v) (.int z) = some (.int (v * z)) := mul_int (.left (by omega))
  have body : b__law_vector [some (.io s.l), none, none, none] = .rt (if u = 0 ∧ v = 0 then vt z 0 else vt (u * z) (v * z)) [some (.io s4.l), some (.pv (.int z)), some (.pv (vt u v)), some (.pv (.int w))] := by
    unfold b__law_vector
    refine (seq_nx (e1 := [some (.io s3.l), none, some (.pv (vt (x - 4) (y - 4))), some (.pv (.int w))]) ?_).trans ?_
    · simp [t1, t2, t3]
    refine (seq_nx (e1 := [some (.io s3.l), none, some (.pv (vt (x - 4) v)), some (.pv (.int w))]) ?_).trans ?_
    · by_cases c : w = 0
      · simp [c, hv]
      · simp [c, hv]
    refine (seq_nx (e1 := [some (.io s3.l), none, some (.pv (vt u v)), some (.pv (.int w))]) ?_).trans ?_
    · by_cases c : w = 1
      · simp [c, hu]
      · simp [c, hu]
    refine (seq_nx (e1 := [some (.io s4.l), some (.pv (.int z)), some (.pv (vt u v)), some (.pv (.int w))]) ?_).trans ?_
    · simp [hQ, ho]
    · have nz := ne_zero u v
      by_cases c : u = 0 ∧ v = 0
      · obtain ⟨c1, c2⟩ := c
        subst c1 c2
        simp [nz]
      · have c' : (u == 0 && v == 0) = false := by
          simp
          omega
        rw [c'] at nz
        simp [nz, m1, m2, c]
  by_cases c : u = 0 ∧ v = 0
  · rw [if_pos c] at body
    exact ⟨z, 0, s4, runF_rt (n := 4) (as := [.io s.l]) rfl body, hz2.mono (by decide), by decide, by omega⟩
  · rw [if_neg c] at body
    refine ⟨u * z, v * z, s4, runF_rt (n := 4) (as := [.io s.l]) rfl body, small_mul u1 hz2, small_mul v1 hz2, fun ⟨h1, h2⟩ => c ⟨?_, ?_⟩⟩
    · rcases Int.mul_eq_zero.mp h1 with h | h <;> omega
    · rcases Int.mul_eq_zero.mp h2 with h | h <;> omega
end Lw

namespace Lw
open PySem PySem.Spec PyProof.Rows L2 TL
/-- a vector that the law asks of -/
def Vin (a b : Int) : Prop := Sz 202 a ∧ Sz 202 b ∧ ¬ (a = 0 ∧ b = 0)
theorem sz_most {a : Int} (h : Sz 202 a) : (a.natAbs : Int) ≤ c_VECTOR_MOST := by
  unfold Sz at h
  have e : c_VECTOR_MOST = 10000000000000000000000000000000000000000000000000000000000000 := by decide
  rw [e]
  omega
theorem Vin.need {a b : Int} (h : Vin a b) : F_need_direction [.pv (vt a b)] = .val .none [.pv (vt a b)] := need_F a b (sz_most h.1) (sz_most h.2.1) h.2.2
theorem Vin.mul4 {a b c d : Int} (h : Vin a b) (k : Vin c d) : Mul4 a b c d := Mul4.of (h.1.mono (by decide)) (h.2.1.mono (by decide)) (k.1.mono (by decide)) (k.2.1.mono (by decide))
theorem comes_F {a b c d : Int} (h : Vin a b) (k : Vin c d) : F_comes_ahead [.pv (vt a b), .pv (vt c d)] = .val (.bool (aheadB a b c d)) [.pv (vt a b), .pv (vt c d)] := by
  refine runF_rt (n := 2) (e0 := [some (.pv (vt a b)), some (.pv (vt c d))]) (env := [some (.pv (vt a b)), some (.pv (vt c d))]) rfl ?_
  have n1 := h.need
  have n2 := k.need
  have f := ahead_F a b c d (h.mul4 k)
  unfold b_comes_ahead
  simp [n1, n2, f]
theorem same_F {a b c d : Int} (h : Vin a b) (k : Vin c d) : F_same_slope [.pv (vt a b), .pv (vt c d)] = .val (.bool (alikeB a b c d)) [.pv (vt a b), .pv (vt c d)] := by
  refine runF_rt (n := 2) (e0 := [some (.pv (vt a b)), some (.pv (vt c d))]) (env := [some (.pv (vt a b)), some (.pv (vt c d))]) rfl ?_
  have n1 := h.need
  have n2 := k.need
  have f := alike_F a b c d (h.mul4 k)
  unfold b_same_slope
  simp [n1, n2, f]
/-- the pair's turn -/
noncomputable def bPair : DS := (dSeq (dAsg (dCall F__law_turn_order [(dVar 4), (dVar 5)]) (gNm 7))
    (dSeq (dIfS (dBool (dOp pyNe (dCall F_comes_ahead [(dVar 4), (dVar 5)]) (dOp pyLt (dVar 7) (dC (.int 0))))) (dRet (dC (.bool false))) dPass)
    (dIfS (dBool (dOp pyNe (dCallP F_same_slope [0, 1] [(dVar 4), (dVar 5)]) (dOp pyEq (dVar 7) (dC (.int 0))))) (dRet (dC (.bool false))) dPass)))
theorem pair_ok {x0 x1 x2 x3 x6 x7 x8 x9 : Option Sl} (h7 : TL.Fr x7 = true) {a b c d : Int} (h : Vin a b) (k : Vin c d) : bPair [x0, x1, x2, x3, some (.pv (vt a b)), some (.pv (vt c d)), x6, x7, x8, x9] = .nx [x0, x1, x2, x3, some (.pv (vt a b)), some (.pv (vt c d)), x6, some (.pv (.int (turn a b c d))), x8, x9] := by
  have t := turn_F a b c d (h.1.mono (by decide)) (h.2.1.mono (by decide)) (k.1.mono (by decide)) (k.2.1.mono (by decide))
  have f := comes_F h k
  have g := same_F h k
  obtain ⟨s1, s2⟩ := turn_spec a b c d h.2.2 k.2.2
  have e1 : decide (turn a b c d < 0) = aheadB a b c d := by
    cases hh : aheadB a b c d with
    | true => exact decide_eq_true (s1.mpr hh)
    | false => exact decide_eq_false fun z => by rw [s1.mp z] at hh; cases hh
  have e2 : (turn a b c d == 0) = alikeB a b c d := by
    cases hh : alikeB a b c d with
    | true => exact beq_iff_eq.mpr (s2.mpr hh)
    | false =>
      refine Bool.eq_false_iff.mpr fun z => ?_
      rw [s2.mp (beq_iff_eq.mp z)] at hh
      cases hh
  unfold bPair
  generalize turn a b c d = T at *
  refine (seq_nx (e1 := [x0, x1, x2, x3, some (.pv (vt a b)), some (.pv (vt c d)), x6, some (.pv (.int T)), x8, x9]) ?_).trans ?_
  · simp [t, h7]
  refine (seq_nx (e1 := [x0, x1, x2, x3, some (.pv (vt a b)), some (.pv (vt c d)), x6, some (.pv (.int T)), x8, x9]) ?_).trans ?_
  · simp [f, e1, ne_bool]
  · simp [g, e2, ne_bool, perm']
def AllV (vs : List PyData) : Prop := ∀ v ∈ vs, ∃ a b, v = vt a b ∧ Vin a b
theorem inner_ok {x0 x1 x2 x3 x6 x8 x9 : Option Sl} {a b : Int} (h : Vin a b) : ∀ (vs : List PyData) (x5 x7 : Option Sl), TL.Fr x5 = true → TL.Fr x7 = true → AllV vs → ∃ y5 y7, TL.Fr y5 = true ∧ TL.Fr y7 = true ∧ loopF (gNm 5) bPair vs [x0, x1, x2, x3, some (.pv (vt a b)), x5, x6, x7, x8, x9] = .nx [x0, x1, x2, x3, some (.pv (vt a b)), y5, x6, y7, x8, x9]
  | [], x5, x7, h5, h7, _ => ⟨x5, x7, h5, h7, rfl⟩
  | v :: vs, x5, x7, h5, h7, hv => by
    obtain ⟨c, d, rfl, k⟩ := hv v List.mem_cons_self
    obtain ⟨y5, y7, g5, g7, e⟩ := inner_ok (x0 := x0) (x1 := x1) (x2 := x2) (x3 := x3) (x6 := x6) (x8 := x8) (x9 := x9) h vs (some (.pv (vt c d))) (some (.pv (.int (turn a b c d)))) rfl rfl fun u hu => hv u (List.mem_cons_of_mem _ hu)
    exact ⟨y5, y7, g5, g7, (loop_step (e1 := [x0, x1, x2, x3, some (.pv (vt a b)), some (.pv (vt c d)), x6, x7, x8, x9]) (by simp [h5]) (pair_ok h7 h k)).trans e⟩
theorem outer_ok {x0 x1 x2 x6 x8 x9 : Option Sl} {us : List PyData} (hu : AllV us) : ∀ (vs : List PyData) (x4 x5 x7 : Option Sl), TL.Fr x4 = true → TL.Fr x5 = true → TL.Fr x7 = true → AllV vs → ∃ y4 y5 y7, TL.Fr y4 = true ∧ TL.Fr y5 = true ∧ TL.Fr y7 = true ∧
    loopF (gNm 4) (dFor (dIt itemsL (dVar 3)) (gNm 5) bPair) vs [x0, x1, x2, some (.pv (.list us)), x4, x5, x6, x7, x8, x9] = .nx [x0, x1, x2, some (.pv (.list us)), y4, y5, x6, y7, x8, x9]
  | [], x4, x5, x7, h4, h5, h7, _ => ⟨x4, x5, x7, h4, h5, h7, rfl⟩
  | v :: vs, x4, x5, x7, h4, h5, h7, hv => by
    obtain ⟨a, b, rfl, k⟩ := hv v List.mem_cons_self
    obtain ⟨y5, y7, g5, g7, e⟩ := inner_ok (x0 := x0) (x1 := x1) (x2 := x2) (x3 := some (.pv (.list us))) (x6 := x6) (x8 := x8) (x9 := x9) k us x5 x7 h5 h7 hu
    obtain ⟨z4, z5, z7, k4, k5, k7, e'⟩ := outer_ok (x0 := x0) (x1 := x1) (x2 := x2) (x6 := x6) (x8 := x8) (x9 := x9) hu vs (some (.pv (vt a b))) y5 y7 rfl g5 g7 fun u hu => hv u (List.mem_cons_of_mem _ hu)
    refine ⟨z4, z5, z7, k4, k5, k7, (loop_step (e1 := [x0, x1, x2, some (.pv (.list us)), some (.pv (vt a b)), x5, x6, x7, x8, x9]) (by simp [h4]) ?_).trans e'⟩
    refine Eq.trans ?_ e
    simp [itemsL]
end Lw

namespace Lw
open PySem PySem.Spec PyProof.Rows L2 TL
noncomputable def bodyD : DS := (dSeq (dAsgO 2 (fCallS F__law_pool 0 [(dVar 1)]))
    (dSeq (dAsgO 3 (dLc (dItA rng1 [(dC (.int 6))]) (gNm 6) dYes (dCallS F__law_vector 2 []) [6]))
    (dSeq (dAsg (dOp pyAdd (dOp pyAdd (dVar 3) (dOfF (dLc (dIt itemsL (dSl (dVar 3) dNoP (dPrt (dC (.int 3))))) (gTp 2 (gsC (gNm 8) (gsC (gNm 9) gs0))) dYes (dTup [(dOp pySub (dC (.int 0)) (dVar 8)), (dOp pySub (dC (.int 0)) (dVar 9))]) [8, 9]))) (dOfF (dLc (dIt itemsL (dSl (dVar 3) dNoP (dPrt (dC (.int 2))))) (gTp 2 (gsC (gNm 8) (gsC (gNm 9) gs0))) dYes (dTup [(dOp pyMul (dC (.int 3)) (dVar 8)), (dOp pyMul (dC (.int 3)) (dVar 9))]) [8, 9]))) (gNm 3))
    (dSeq (dFor (dIt itemsL (dVar 3)) (gNm 4) (dFor (dIt itemsL (dVar 3)) (gNm 5) bPair))
    (dIfS (dBool (dOp pyNe (dCallP F_comes_ahead [0, 1] [(dTup [(dC (.int 1)), (dC (.int 0))]), (dOp pyIx (dVar 3) (dC (.int 0)))]) (dOp pyNe (dCall F__law_quarter [(dOp pyIx (dVar 3) (dC (.int 0)))]) (dTup [(dC (.int 0)), (dTup [(dC (.int 0)), (dOp pyIx (dOp pyIx (dVar 3) (dC (.int 0))) (dC (.int 0)))])])))) (dRet (dC (.bool false))) dPass)))))
def f1 : PyData → PyData
  | .tuple [.int a, .int b] => vt (0 - a) (0 - b)
  | v => v
def f2 : PyData → PyData
  | .tuple [.int a, .int b] => vt (3 * a) (3 * b)
  | v => v
def AllO (vs : List PyData) : Prop := ∀ v ∈ vs, ∃ a b, v = vt a b ∧ Vok a b
theorem first_ok {x0 x1 x3 x4 x5 x7 : Option Sl} (s : Src) : ∃ ds s', ds.length = 6 ∧ AllO ds ∧ dLc (dItA rng1 [(dC (.int 6))]) (gNm 6) dYes (dCallS F__law_vector 2 []) [6] [x0, x1, some (.ow s.l), x3, x4, x5, none, x7, none, none] = .ok (ds, [x0, x1, some (.ow (Src.l s')), x3, x4, x5, none, x7, none, none]) := by
  obtain ⟨ds, en, h1, h2, h3, ⟨s', rfl⟩⟩ := lc_ok (g := gNm 6) (t := dYes) (d := dCallS F__law_vector 2 []) (ws := [6]) (P := fun v => ∃ a b, v = vt a b ∧ Vok a b) (I := fun env => ∃ s : Src, env = [x0, x1, some (.ow s.l), x3, x4, x5, none, x7, none, none]) (rng 0 6) [] [x0, x1, some (.ow s.l), x3, x4, x5, none, x7, none, none] ⟨s, rfl⟩ (by decide +kernel) fun v hv env ⟨s, e⟩ => by
    subst e
    obtain ⟨a, b, s', hf, ok⟩ := vector_F s
    refine ⟨[x0, x1, some (.ow s.l), x3, x4, x5, some (.pv v), x7, none, none], _, [x0, x1, some (.ow s'.l), x3, x4, x5, some (.pv v), x7, none, none], vt a b, ?_, rfl, ?_, ⟨a, b, rfl, ok⟩, s', rfl⟩
    · simp
    · simp [hf]
  refine ⟨ds, s', by rw [h2]; rfl, h3, ?_⟩
  refine (dLc_of (its := rng 0 6) (e1 := [x0, x1, some (.ow s.l), x3, x4, x5, none, x7, none, none]) ?_ rfl h1).trans rfl
  have : rng1 [.int 6] = some (rng 0 6) := rfl
  simp [this]
theorem cut_mem {vs : List PyData} {lo hi : Option Int} {v : PyData} (h : v ∈ cutD vs lo hi) : v ∈ vs := List.mem_of_mem_drop (List.mem_of_mem_take h)
theorem cut_len {vs : List PyData} {lo hi : Option Int} : (cutD vs lo hi).length ≤ vs.length := by
  unfold TL.cutD
  rw [List.length_take, List.length_drop]
  omega
theorem comp2_ok {x0 x1 x2 x4 x5 x7 : Option Sl} {ds : List PyData} (h6 : ds.length = 6) (h : AllO ds) : (dOfF (dLc (dIt itemsL (dSl (dVar 3) dNoP (dPrt (dC (.int 3))))) (gTp 2 (gsC (gNm 8) (gsC (gNm 9) gs0))) dYes (dTup [(dOp pySub (dC (.int 0)) (dVar 8)), (dOp pySub (dC (.int 0)) (dVar 9))]) [8, 9])) [x0, x1, x2, some (.pv (.list ds)), x4, x5, none, x7, none, none] = .ok (.list ((cutD ds none (some 3)).map f1), [x0, x1, x2, some (.pv (.list ds)), x4, x5, none, x7, none, none]) := by
  have z : 6 ≤ sizeLine := by decide +kernel
  have hl := lc_map (g := gTp 2 (gsC (gNm 8) (gsC (gNm 9) gs0))) (t := dYes) (d := dTup [(dOp pySub (dC (.int 0)) (dVar 8)), (dOp pySub (dC (.int 0)) (dVar 9))]) (ws := [8, 9]) (f := f1) (env := [x0, x1, x2, some (.pv (.list ds)), x4, x5, none, x7, none, none]) (cutD ds none (some 3)) [] (by
    have := cut_len (vs := ds) (lo := none) (hi := some 3)
    simp only [List.length_nil]
    omega) fun v hv => by
    obtain ⟨a, b, rfl, ok⟩ := h v (cut_mem hv)
    refine ⟨[x0, x1, x2, some (.pv (.list ds)), x4, x5, none, x7, some (.pv (.int a)), some (.pv (.int b))], _, [x0, x1, x2, some (.pv (.list ds)), x4, x5, none, x7, some (.pv (.int a)), some (.pv (.int b))], ?_, rfl, ?_, rfl⟩
    · simp
    · simp [f1]
  have hd := dLc_of (dl := dIt itemsL (dSl (dVar 3) dNoP (dPrt (dC (.int 3))))) (env := [x0, x1, x2, some (.pv (.list ds)), x4, x5, none, x7, none, none]) (e1 := [x0, x1, x2, some (.pv (.list ds)), x4, x5, none, x7, none, none]) (its := cutD ds none (some 3)) (by simp [dSl, dNoP, dPrt, pySl, itemsL]) rfl hl
  show (dLc _ _ _ _ _ _).bind _ = _
  rw [hd]
  rfl
theorem comp3_ok {x0 x1 x2 x4 x5 x7 : Option Sl} {ds : List PyData} (h6 : ds.length = 6) (h : AllO ds) : (dOfF (dLc (dIt itemsL (dSl (dVar 3) dNoP (dPrt (dC (.int 2))))) (gTp 2 (gsC (gNm 8) (gsC (gNm 9) gs0))) dYes (dTup [(dOp pyMul (dC (.int 3)) (dVar 8)), (dOp pyMul (dC (.int 3)) (dVar 9))]) [8, 9])) [x0, x1, x2, some (.pv (.list ds)), x4, x5, none, x7, none, none] = .ok (.list ((cutD ds none (some 2)).map f2), [x0, x1, x2, some (.pv (.list ds)), x4, x5, none, x7, none, none]) := by
  have z : 6 ≤ sizeLine := by decide +kernel
  have hl := lc_map (g := gTp 2 (gsC (gNm 8) (gsC (gNm 9) gs0))) (t := dYes) (d := dTup [(dOp pyMul (dC (.int 3)) (dVar 8)), (dOp pyMul (dC (.int 3)) (dVar 9))]) (ws := [8, 9]) (f := f2) (env := [x0, x1, x2, some (.pv (.list ds)), x4, x5, none, x7, none, none]) (cutD ds none (some 2)) [] (by
    have := cut_len (vs := ds) (lo := none) (hi := some 2)
    simp only [List.length_nil]
    omega) fun v hv => by
    obtain ⟨a, b, rfl, ok⟩ := h v (cut_mem hv)
    have m1 : pyMul (.int 3) (.int a) = some (.int (3 * a)) := mul_int (.left (by decide))
    have m2 : pyMul (.int 3) (.int b) = some (.int (3 * b)) := mul_int (.left (by decide))
    refine ⟨[x0, x1, x2, some (.pv (.list ds)), x4, x5, none, x7, some (.pv (.int a)), some (.pv (.int b))], _, [x0, x1, x2, some (.pv (.list ds)), x4, x5, none, x7, some (.pv (.int a)), some (.pv (.int b))], ?_, rfl, ?_, rfl⟩
    · simp
    · simp [f2, m1, m2]
  have hd := dLc_of (dl := dIt itemsL (dSl (dVar 3) dNoP (dPrt (dC (.int 2))))) (env := [x0, x1, x2, some (.pv (.list ds)), x4, x5, none, x7, none, none]) (e1 := [x0, x1, x2, some (.pv (.list ds)), x4, x5, none, x7, none, none]) (its := cutD ds none (some 2)) (by simp [dSl, dNoP, dPrt, pySl, itemsL]) rfl hl
  show (dLc _ _ _ _ _ _).bind _ = _
  rw [hd]
  rfl
theorem Vok.in {a b : Int} (h : Vok a b) : Vin a b := ⟨h.1.mono (by decide), h.2.1.mono (by decide), h.2.2⟩
theorem all_eleven {ds : List PyData} (h : AllO ds) : AllV (ds ++ (cutD ds none (some 3)).map f1 ++ (cutD ds none (some 2)).map f2) := by
  intro v hv
  simp only [List.mem_append, List.mem_map] at hv
  rcases hv with (hv | ⟨u, hu, rfl⟩) | ⟨u, hu, rfl⟩
  · obtain ⟨a, b, e, ok⟩ := h v hv
    exact ⟨a, b, e, ok.in⟩
  · obtain ⟨a, b, rfl, ok⟩ := h u (cut_mem hu)
    have k := ok.in
    exact ⟨0 - a, 0 - b, rfl, by unfold Vin Sz at *; omega⟩
  · obtain ⟨a, b, rfl, ok⟩ := h u (cut_mem hu)
    exact ⟨3 * a, 3 * b, rfl, by unfold Vok Vin Sz at *; omega⟩
end Lw

namespace Lw
open PySem PySem.Spec PyProof.Rows L2 TL
theorem loop_inv {I : En → Prop} {g : DG} {body : DS} : ∀ (vs : List PyData) (env : En), I env → (∀ v ∈ vs, ∀ env, I env → ∃ e1 e2, g v env = some e1 ∧ body e1 = .nx e2 ∧ I e2) → ∃ e2, loopF g body vs env = .nx e2 ∧ I e2
  | [], env, h, _ => ⟨env, rfl, h⟩
  | v :: vs, env, h, hb => by
    obtain ⟨e1, e2, h1, h2, h3⟩ := hb v List.mem_cons_self env h
    obtain ⟨e3, h4, h5⟩ := loop_inv vs e2 h3 fun w hw => hb w (List.mem_cons_of_mem _ hw)
    exact ⟨e3, (loop_step h1 h2).trans h4, h5⟩
theorem one_zero {a b : Int} (h : Vin a b) : aheadB 1 0 a b = !(decide (qn a b = 0) && (decide (qf a b = 0) && decide (qs a b = a))) := by
  unfold aheadB
  have u : upB 1 0 = true := rfl
  rw [u]
  rcases quart a b h.2.2 with ⟨p1, p2, p3, p4, p5, p6⟩ | ⟨p1, p2, p3, p4, p5, p6⟩ | ⟨p1, p2, p3, p4, p5, p6⟩ | ⟨p1, p2, p3, p4, p5, p6⟩ <;> rw [p3, p4, p5, p6] <;> simp
  · by_cases z : b = 0
    · simp [z]
    · have : 0 < b := by omega
      simp [z, this]
  · exact p2
theorem quarter_ne (a b : Int) : pyNe (.tuple [.int (qn a b), vt (qf a b) (qs a b)]) (.tuple [.int 0, vt 0 a]) = some (.bool (!(decide (qn a b = 0) && (decide (qf a b = 0) && decide (qs a b = a))))) := by
  have sh : ∀ x y z : Int, SeqAt.shaped (.tuple [.int x, vt y z]) = true := fun x y z => by
    simp [SeqAt.shaped, PyData.canLay0, PyData.canLayAll0, PyData.depth, PyData.depthAll]
  unfold pyNe
  rw [if_pos ⟨sh _ _ _, sh _ _ _⟩]
  simp [PyData.eqv, PyData.eqvAll]
  rfl
def Ic (ns : List Int) (env : En) : Prop := ∃ x1 x2 x3 x4 x5 x7 : Option Sl, env = [some (.sc ns), x1, x2, x3, x4, x5, none, x7, none, none] ∧ TL.Fr x1 = true ∧ TL.Fr x2 = true ∧ TL.Fr x3 = true ∧ TL.Fr x4 = true ∧ TL.Fr x5 = true ∧ TL.Fr x7 = true
theorem body_ok (ns : List Int) (k : Nat) (hk : k ≤ 1000) (x2 x3 x4 x5 x7 : Option Sl) (h2 : TL.Fr x2 = true) (h3 : TL.Fr x3 = true) (h4 : TL.Fr x4 = true) (h5 : TL.Fr x5 = true) (h7 : TL.Fr x7 = true) :
    ∃ e2, bodyD [some (.sc ns), some (.pv (.int k)), x2, x3, x4, x5, none, x7, none, none] = .nx e2 ∧ Ic ns e2 := by
  have hp := pool_F ns k hk
  obtain ⟨ds, s', l6, ho, hf⟩ := first_ok (x0 := some (.sc ns)) (x1 := some (.pv (.int k))) (x3 := x3) (x4 := x4) (x5 := x5) (x7 := x7) (pool ns k)
  have c2 := comp2_ok (x0 := some (.sc ns)) (x1 := some (.pv (.int k))) (x2 := some (.ow s'.l)) (x4 := x4) (x5 := x5) (x7 := x7) l6 ho
  have c3 := comp3_ok (x0 := some (.sc ns)) (x1 := some (.pv (.int k))) (x2 := some (.ow s'.l)) (x4 := x4) (x5 := x5) (x7 := x7) l6 ho
  have al := all_eleven ho
  have z : 100 ≤ sizeLine := by decide +kernel
  have la := cut_len (vs := ds) (lo := none) (hi := some 3)
  have lb := cut_len (vs := ds) (lo := none) (hi := some 2)
  obtain ⟨A, hA⟩ : ∃ A, A = (cutD ds none (some 3)).map f1 := ⟨_, rfl⟩
  obtain ⟨B, hB⟩ : ∃ B, B = (cutD ds none (some 2)).map f2 := ⟨_, rfl⟩
  rw [← hA] at c2 al
  rw [← hB] at c3 al
  have lA : A.length ≤ 6 := by rw [hA, List.length_map]; omega
  have lB : B.length ≤ 6 := by rw [hB, List.length_map]; omega
  have a1 : pyAdd (.list ds) (.list A) = some (.list (ds ++ A)) := if_pos (by omega)
  have a2 : pyAdd (.list (ds ++ A)) (.list B) = some (.list (ds ++ A ++ B)) := if_pos (by rw [List.length_append]; omega)
  obtain ⟨y4, y5, y7, g4, g5, g7, el⟩ := outer_ok (x0 := some (.sc ns)) (x1 := some (.pv (.int k))) (x2 := some (.ow s'.l)) (x6 := none) (x8 := none) (x9 := none) al (ds ++ A ++ B) x4 x5 x7 h4 h5 h7 al
  obtain ⟨v0, rest, hd⟩ : ∃ v0 rest, ds ++ A ++ B = v0 :: rest := by
    match ds, l6 with
    | v :: r, _ => exact ⟨v, r ++ A ++ B, rfl⟩
  rw [hd] at el al a2
  obtain ⟨a, b, e0, ok⟩ := al v0 List.mem_cons_self
  subst e0
  have k1 : Vin 1 0 := ⟨by decide, by decide, by decide⟩
  have hc := comes_F k1 ok
  rw [one_zero ok] at hc
  have hq := quarter_F a b
  have hn := quarter_ne a b
  have i0 : pyIx (.list (vt a b :: rest)) (.int 0) = some (vt a b) := by
    show atI (vt a b :: rest) ((0 : Nat) : Int) = _
    exact atI_nat rfl
  generalize (!(decide (qn a b = 0) && (decide (qf a b = 0) && decide (qs a b = a)))) = bb at hc hn
  refine ⟨[some (.sc ns), some (.pv (.int k)), some (.ow s'.l), some (.pv (.list (vt a b :: rest))), y4, y5, none, y7, none, none], ?_, _, _, _, _, _, _, rfl, rfl, rfl, rfl, g4, g5, g7⟩
  unfold bodyD
  refine (seq_nx (e1 := [some (.sc ns), some (.pv (.int k)), some (.ow (pool ns k).l), x3, x4, x5, none, x7, none, none]) ?_).trans ?_
  · simp [hp, h2]
  refine (seq_nx (e1 := [some (.sc ns), some (.pv (.int k)), some (.ow s'.l), some (.ow ds), x4, x5, none, x7, none, none]) ?_).trans ?_
  · rw [ap_AsgO, hf]
    simp [h3]
  refine (seq_nx (e1 := [some (.sc ns), some (.pv (.int k)), some (.ow s'.l), some (.pv (.list (vt a b :: rest))), x4, x5, none, x7, none, none]) ?_).trans ?_
  · rw [ap_Asg, ap_Op, ap_Op]
    simp only [var_s, var_ow0, up_ok, Out.bind_ok, c2, a1, Out.of_some, c3, a2]
    simp
  refine (seq_nx (e1 := [some (.sc ns), some (.pv (.int k)), some (.ow s'.l), some (.pv (.list (vt a b :: rest))), y4, y5, none, y7, none, none]) ?_).trans ?_
  · refine Eq.trans ?_ el
    simp [itemsL]
  · simp [perm', i0, hc, hq, hn, ne_bool]
end Lw

namespace Lw
open PySem PySem.Spec PyProof.Rows L2 TL
theorem mem_rng {i : Int} : ∀ {n : Nat} {v : PyData}, v ∈ rng i n → ∃ j : Nat, j < n ∧ v = .int (i + j) := by
  intro n v h
  unfold rng at h
  simp only [List.mem_map, List.mem_range] at h
  obtain ⟨j, hj, e⟩ := h
  exact ⟨j, hj, e.symm⟩
theorem for_of {items : DL} {g : DG} {b : DS} {env e1 : En} {vs : List PyData} (h : items env = .ok (vs, e1)) : dFor items g b env = loopF g b vs e1 := by
  show (items env).goS _ = _
  rw [h]
  rfl
theorem law_pure : ∀ ns : List Int, ns.length ≤ 63 → ∃ as', F_law [.sc ns] = .val (.bool true) as' := fun ns hl => by
  have hf : Ic ns [some (.sc ns), none, none, none, none, none, none, none, none, none] := ⟨none, none, none, none, none, none, rfl, rfl, rfl, rfl, rfl, rfl, rfl⟩
  obtain ⟨m, hm⟩ : ∃ m : Int, m = if (2 : Int) < ns.length then 2 else (ns.length : Int) := ⟨_, rfl⟩
  have hm0 : 0 ≤ m := by
    rw [hm]
    split <;> omega
  have hm1 : m ≤ 2 := by
    rw [hm]
    split <;> omega
  obtain ⟨e2, h1, h2⟩ := loop_inv (g := gNm 1) (body := bodyD) (rng 0 (max 1 m.toNat)) _ hf fun v hv env he => by
    obtain ⟨j, hj, rfl⟩ := mem_rng hv
    obtain ⟨x1, x2, x3, x4, x5, x7, rfl, f1, f2, f3, f4, f5, f7⟩ := he
    obtain ⟨e2, e, i2⟩ := body_ok ns j (by omega) x2 x3 x4 x5 x7 f2 f3 f4 f5 f7
    refine ⟨_, e2, ?_, e, i2⟩
    rw [Int.zero_add]
    simp [f1]
  have hc := cells (ns := ns) hm0 (by omega)
  refine ⟨_, runF_rt (n := 10) (body := b_law) (as := [.sc ns]) (e0 := [some (.sc ns), none, none, none, none, none, none, none, none, none]) (env := e2) rfl ?_⟩
  unfold b_law
  refine (seq_nx (e1 := e2) ?_).trans rfl
  refine Eq.trans (for_of (vs := rng 0 (max 1 m.toNat)) (e1 := [some (.sc ns), none, none, none, none, none, none, none, none, none]) ?_) h1
  rw [hm] at hc ⊢
  have hs : dArgs [dCB pyMax2 [(dC (.int 1)), (dCB pyMin2 [(dLenO 0), (dC (.int 2))])]] [some (.sc ns), none, none, none, none, none, none, none, none, none] = .ok ([.int (if (if (2 : Int) < ns.length then 2 else (ns.length : Int)) > 1 then (if (2 : Int) < ns.length then 2 else (ns.length : Int)) else 1)], [some (.sc ns), none, none, none, none, none, none, none, none, none]) := by
    simp
  rw [ap_ItA, hs]
  show (Out.of (rng1 _)).bind _ = _
  rw [hc]
  rfl
end Lw

open PySem PySem.W PyProof.Rows
set_option maxRecDepth 100000 in
set_option maxHeartbeats 0 in
theorem PySem.Challenge.cw_gridshapes_k01_whole_slopes_holds : PySem.Challenge.rw_gridshapes_k01_whole_slopes.Holds := by
  w_on; o_law; k_head; (case hw => w_witness2)
  k_fill
  refine TL.walk_x (l := PySem.Challenge.rw_gridshapes_k01_whole_slopes) (n := 63) (k := 7) (x := "_law_script") (CX := fun w => L2.CX PySem.Challenge.rw_gridshapes_k01_whole_slopes.prog w) (sp := fun w => TL.spLaw _) rfl (by decide) rfl ⟨rfl, by decide, by decide⟩ (fun w h Y => PySem.W.kIn_of Y) ?F (fun _ _ a ns hl hO hS => ⟨a, ns, rfl, hO, hS, hl, fun _ => rfl⟩) (fun _ _ _ _ _ h => TL.cx_end h)
  case F =>
    intro w mg fa h KX XX G hmg
    refine' Lw.all_mk KX G hmg ?g_NoVector ?g_ShapeError ?z_abs ?z_bool ?z_int ?z_isinstance ?z_len ?z_max ?z_min ?z_range ?z_tuple ?z_ValueError ?zc_VECTOR_MOST ?a_is_number ?l_is_number ?c_is_number ?k_is_number ?a_cross ?l_cross ?c_cross ?k_cross ?a_dot ?l_dot ?c_dot ?k_dot ?a_is_upper ?l_is_upper ?c_is_upper ?k_is_upper ?a__law_pool ?l__law_pool ?c__law_pool ?k__law_pool ?a__law_take ?l__law_take ?c__law_take ?k__law_take ?a__law_sign ?l__law_sign ?c__law_sign ?k__law_sign ?a__law_quarter ?l__law_quarter ?c__law_quarter ?k__law_quarter ?a_is_number_pair ?l_is_number_pair ?c_is_number_pair ?k_is_number_pair ?a_is_slope_ahead ?l_is_slope_ahead ?c_is_slope_ahead ?k_is_slope_ahead ?a_is_slope_alike ?l_is_slope_alike ?c_is_slope_alike ?k_is_slope_alike ?a__law_one ?l__law_one ?c__law_one ?k__law_one ?a__law_turn_order ?l__law_turn_order ?c__law_turn_order ?k__law_turn_order ?a_is_vector ?l_is_vector ?c_is_vector ?k_is_vector ?a__law_vector ?l__law_vector ?c__law_vector ?k__law_vector ?a_is_direction ?l_is_direction ?c_is_direction ?k_is_direction ?a_need_direction ?l_need_direction ?c_need_direction ?k_need_direction ?a_comes_ahead ?l_comes_ahead ?c_comes_ahead ?k_comes_ahead ?a_same_slope ?l_same_slope ?c_same_slope ?k_same_slope ?a_law ?l_law ?c_law ?k_law ?x_NoVector ?r_NoVector ?sa_NoVector ?ga_NoVector ?gg_NoVector ?nb_NoVector ?i_NoVector ?kC_NoVector ?eC_NoVector ?tC_NoVector ?hC_NoVector ?l_IShapeError ?c_IShapeError ?k_IShapeError ?t_IShapeError ?vV Lw.law_pure
    (case g_NoVector => first | k_is | rfl)
    (case g_ShapeError => first | k_is | rfl)
    (case z_abs => first | k_is | rfl)
    (case z_bool => first | k_is | rfl)
    (case z_int => first | k_is | rfl)
    (case z_isinstance => first | k_is | rfl)
    (case z_len => first | k_is | rfl)
    (case z_max => first | k_is | rfl)
    (case z_min => first | k_is | rfl)
    (case z_range => first | k_is | rfl)
    (case z_tuple => first | k_is | rfl)
    (case z_ValueError => first | k_is | rfl)
    (case zc_VECTOR_MOST => first | exact TL.loose_int XX (by repeat (first | exact List.Mem.head _ | apply List.Mem.tail)) | exact ⟨_, PySem.W.mg_of KX G (by k_is), ⟨_, rfl⟩⟩)
    (case a_is_number => first | k_is | rfl)
    (case l_is_number => first | k_is | rfl)
    (case c_is_number => first | k_is | rfl)
    (case k_is_number => first | k_is | rfl)
    (case a_cross => first | k_is | rfl)
    (case l_cross => first | k_is | rfl)
    (case c_cross => first | k_is | rfl)
    (case k_cross => first | k_is | rfl)
    (case a_dot => first | k_is | rfl)
    (case l_dot => first | k_is | rfl)
    (case c_dot => first | k_is | rfl)
    (case k_dot => first | k_is | rfl)
    (case a_is_upper => first | k_is | rfl)
    (case l_is_upper => first | k_is | rfl)
    (case c_is_upper => first | k_is | rfl)
    (case k_is_upper => first | k_is | rfl)
    (case a__law_pool => first | k_is | rfl)
    (case l__law_pool => first | k_is | rfl)
    (case c__law_pool => first | k_is | rfl)
    (case k__law_pool => first | k_is | rfl)
    (case a__law_take => first | k_is | rfl)
    (case l__law_take => first | k_is | rfl)
    (case c__law_take => first | k_is | rfl)
    (case k__law_take => first | k_is | rfl)
    (case a__law_sign => first | k_is | rfl)
    (case l__law_sign => first | k_is | rfl)
    (case c__law_sign => first | k_is | rfl)
    (case k__law_sign => first | k_is | rfl)
    (case a__law_quarter => first | k_is | rfl)
    (case l__law_quarter => first | k_is | rfl)
    (case c__law_quarter => first | k_is | rfl)
    (case k__law_quarter => first | k_is | rfl)
    (case a_is_number_pair => first | k_is | rfl)
    (case l_is_number_pair => first | k_is | rfl)
    (case c_is_number_pair => first | k_is | rfl)
    (case k_is_number_pair => first | k_is | rfl)
    (case a_is_slope_ahead => first | k_is | rfl)
    (case l_is_slope_ahead => first | k_is | rfl)
    (case c_is_slope_ahead => first | k_is | rfl)
    (case k_is_slope_ahead => first | k_is | rfl)
    (case a_is_slope_alike => first | k_is | rfl)
    (case l_is_slope_alike => first | k_is | rfl)
    (case c_is_slope_alike => first | k_is | rfl)
    (case k_is_slope_alike => first | k_is | rfl)
    (case a__law_one => first | k_is | rfl)
    (case l__law_one => first | k_is | rfl)
    (case c__law_one => first | k_is | rfl)
    (case k__law_one => first | k_is | rfl)
    (case a__law_turn_order => first | k_is | rfl)
    (case l__law_turn_order => first | k_is | rfl)
    (case c__law_turn_order => first | k_is | rfl)
    (case k__law_turn_order => first | k_is | rfl)
    (case a_is_vector => first | k_is | rfl)
    (case l_is_vector => first | k_is | rfl)
    (case c_is_vector => first | k_is | rfl)
    (case k_is_vector => first | k_is | rfl)
    (case a__law_vector => first | k_is | rfl)
    (case l__law_vector => first | k_is | rfl)
    (case c__law_vector => first | k_is | rfl)
    (case k__law_vector => first | k_is | rfl)
    (case a_is_direction => first | k_is | rfl)
    (case l_is_direction => first | k_is | rfl)
    (case c_is_direction => first | k_is | rfl)
    (case k_is_direction => first | k_is | rfl)
    (case a_need_direction => first | k_is | rfl)
    (case l_need_direction => first | k_is | rfl)
    (case c_need_direction => first | k_is | rfl)
    (case k_need_direction => first | k_is | rfl)
    (case a_comes_ahead => first | k_is | rfl)
    (case l_comes_ahead => first | k_is | rfl)
    (case c_comes_ahead => first | k_is | rfl)
    (case k_comes_ahead => first | k_is | rfl)
    (case a_same_slope => first | k_is | rfl)
    (case l_same_slope => first | k_is | rfl)
    (case c_same_slope => first | k_is | rfl)
    (case k_same_slope => first | k_is | rfl)
    (case a_law => first | k_is | rfl)
    (case l_law => first | k_is | rfl)
    (case c_law => first | k_is | rfl)
    (case k_law => first | k_is | rfl)
    (case x_NoVector => first | k_is | rfl)
    (case r_NoVector => first | rfl | decide +kernel | k_is)
    (case sa_NoVector => first | k_is | rfl)
    (case ga_NoVector => first | k_is | rfl)
    (case gg_NoVector => first | k_is | rfl)
    (case nb_NoVector => first | k_is | rfl)
    (case i_NoVector => first | k_is | rfl)
    (case kC_NoVector => first | k_is | rfl)
    (case eC_NoVector => first | k_is | rfl)
    (case tC_NoVector => first | k_is | rfl)
    (case hC_NoVector => first | k_is | rfl)
    (case l_IShapeError => first | k_is | rfl)
    (case c_IShapeError => first | k_is | rfl)
    (case k_IShapeError => first | k_is | rfl)
    (case t_IShapeError => first | k_is | rfl)
    (case vV => first | k_is | rfl)

