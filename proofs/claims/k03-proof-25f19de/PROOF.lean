import PyProof.Rows.All
import Wide.All
import OpenK.AllK
import Wide.FinOn
import HandS.ForMost
import HandS.ForExc
import HandS.IsInst
import HandS.Walk
import HandS.Style
import HandS.More
import HandS.FStr
import HandS.Zip
import KE.KEqNest
import KE.KDictZip
import PyProof.Rows.RuleB_bool
import PySem.Challenge.RW_formatfit_k03_lesser_parts_make_less
set_option Elab.async false
set_option linter.all false
set_option maxRecDepth 100000
/-! Fm: data without a heap, a store of cells that may change, and what a reading makes of them. -/
namespace Fm
open PySem L2

/-- data that nothing changes any more -/
inductive D where
  | non | bl (b : Bool) | int (i : Int) | str (s : Str) | lst (xs : List D) | tup (xs : List D) | dct (kvs : List (Key × D)) | kl (ns : List Int)
/-- a value: data, or the n-th cell of the store -/
inductive T where
  | d (x : D) | p (n : Nat)
/-- what a cell holds: a list, a dict, an instance; or data that it has become -/
inductive Cell where
  | lst (xs : List T) | dct (kvs : List (Key × T)) | obj (C : Addr) (fs : List (Str × T)) | frz (x : D)
def Cell.live : Cell → Bool
  | .frz _ => false
  | _ => true
abbrev Mu := List Cell
/-- an error in the air: its class, its fields -/
structure Exn where
  cls : Addr
  fs : Option (List (Str × D))
inductive Rs (α : Type) where
  | ok (a : α) (μ : Mu)
  | ex (x : Exn) (μ : Mu)
abbrev M (α : Type) := Mu → Option (Rs α)
@[simp] def mret {α : Type} (a : α) : M α := fun μ => some (.ok a μ)
@[simp] def mbind {α β : Type} (f : M α) (g : α → M β) : M β := fun μ => match f μ with
  | none => none
  | some (.ex x μ') => some (.ex x μ')
  | some (.ok a μ') => g a μ'
def mstuck {α : Type} : M α := fun _ => none
@[simp] def mof {α : Type} (o : Option α) : M α := fun μ => match o with
  | none => none
  | some a => some (.ok a μ)

/-! ### what stands for data in a heap -/
section
variable (K : PySem.W.Frag)
mutual
def Rep (F : Hp) : D → V → Prop
  | .non, v => v = .non
  | .bl b, v => v = .bl b
  | .int i, v => v = .int i
  | .str s, v => v = .str s
  | .lst ds, v => ∃ a vs, v = .ref a ∧ F a = some (.lst vs) ∧ Reps F ds vs
  | .tup ds, v => ∃ a vs, v = .ref a ∧ F a = some (.tup vs) ∧ Reps F ds vs
  | .dct kvs, v => ∃ a ws, v = .ref a ∧ F a = some (.dK ws) ∧ RepK F kvs ws
  | .kl ns, v => ∃ a, v = .ref a ∧ SqL K F a (ns.map V.int)
def Reps (F : Hp) : List D → List V → Prop
  | [], vs => vs = []
  | d :: ds, vs => ∃ v r, vs = v :: r ∧ Rep F d v ∧ Reps F ds r
def RepK (F : Hp) : List (Key × D) → List (Key × V) → Prop
  | [], ws => ws = []
  | (k, d) :: r, ws => ∃ v q, ws = (k, v) :: q ∧ Rep F d v ∧ RepK F r q
end
end
section
variable {K : PySem.W.Frag} {F F' : Hp}
mutual
theorem Rep.mono (e : Same F F') : ∀ {d : D} {v : V}, Rep K F d v → Rep K F' d v
  | .non, v, h => h
  | .bl b, v, h => h
  | .int i, v, h => h
  | .str s, v, h => h
  | .lst ds, v, ⟨a, vs, h1, h2, h3⟩ => ⟨a, vs, h1, e _ _ h2, Reps.mono e h3⟩
  | .tup ds, v, ⟨a, vs, h1, h2, h3⟩ => ⟨a, vs, h1, e _ _ h2, Reps.mono e h3⟩
  | .dct kvs, v, ⟨a, vs, h1, h2, h3⟩ => ⟨a, vs, h1, e _ _ h2, RepK.mono e h3⟩
  | .kl ns, v, ⟨a, h1, h2⟩ => ⟨a, h1, e.seq h2⟩
theorem Reps.mono (e : Same F F') : ∀ {ds : List D} {vs : List V}, Reps K F ds vs → Reps K F' ds vs
  | [], _, h => h
  | d :: ds, _, ⟨v, r, h1, h2, h3⟩ => ⟨v, r, h1, Rep.mono e h2, Reps.mono e h3⟩
theorem RepK.mono (e : Same F F') : ∀ {ds : List (Key × D)} {vs : List (Key × V)}, RepK K F ds vs → RepK K F' ds vs
  | [], _, h => h
  | (k, d) :: ds, _, ⟨v, r, h1, h2, h3⟩ => ⟨v, r, h1, Rep.mono e h2, RepK.mono e h3⟩
end
theorem Reps.paired : ∀ {ds : List D} {vs : List V}, Reps K F ds vs ↔ Paired (Rep K F) ds vs
  | [], vs => ⟨fun h => by rw [show vs = [] from h]; exact .nil, fun h => by cases h; rfl⟩
  | d :: ds, vs => ⟨fun ⟨v, r, h1, h2, h3⟩ => by rw [h1]; exact .cons h2 (Reps.paired.mp h3), fun h => by
      cases h with
      | cons h2 h3 => exact ⟨_, _, rfl, h2, Reps.paired.mpr h3⟩⟩
theorem RepK.paired : ∀ {ds : List (Key × D)} {vs : List (Key × V)}, RepK K F ds vs ↔ Paired (fun p q => p.1 = q.1 ∧ Rep K F p.2 q.2) ds vs
  | [], vs => ⟨fun h => by rw [show vs = [] from h]; exact .nil, fun h => by cases h; rfl⟩
  | (k, d) :: ds, vs => ⟨fun ⟨v, r, h1, h2, h3⟩ => by rw [h1]; exact .cons ⟨rfl, h2⟩ (RepK.paired.mp h3), fun h => by
      cases h with
      | @cons a b l1 l2 h2 h3 =>
        obtain ⟨k', v'⟩ := b
        obtain ⟨e1, e2⟩ := h2
        cases e1
        exact ⟨_, _, rfl, e2, RepK.paired.mpr h3⟩⟩
end
/-- a list pair by pair: lengths, places, ends -/
theorem pd_len {α β : Type} {R : α → β → Prop} {l : List α} {m : List β} (h : Paired R l m) : l.length = m.length := Paired.length h
theorem pd_get {α β : Type} {R : α → β → Prop} : ∀ {l : List α} {m : List β} {i : Nat} {a : α}, Paired R l m → l[i]? = some a → ∃ b, m[i]? = some b ∧ R a b
  | _, _, i, a, .nil, e => by simp at e
  | _, _, 0, a, .cons h _, e => by simp at e; subst e; exact ⟨_, rfl, h⟩
  | _, _, i + 1, a, .cons _ t, e => by
    obtain ⟨b, h1, h2⟩ := pd_get (i := i) (a := a) t (by simpa using e)
    exact ⟨b, by simpa using h1, h2⟩
theorem pd_get' {α β : Type} {R : α → β → Prop} : ∀ {l : List α} {m : List β} {i : Nat} {b : β}, Paired R l m → m[i]? = some b → ∃ a, l[i]? = some a ∧ R a b
  | _, _, i, a, .nil, e => by simp at e
  | _, _, 0, a, .cons h _, e => by simp at e; subst e; exact ⟨_, rfl, h⟩
  | _, _, i + 1, a, .cons _ t, e => by
    obtain ⟨b, h1, h2⟩ := pd_get' (i := i) (b := a) t (by simpa using e)
    exact ⟨b, by simpa using h1, h2⟩
theorem pd_imp {α β : Type} {R S : α → β → Prop} (h : ∀ a b, R a b → S a b) : ∀ {l : List α} {m : List β}, Paired R l m → Paired S l m
  | _, _, .nil => .nil
  | _, _, .cons a b => .cons (h _ _ a) (pd_imp h b)
theorem pd_app {α β : Type} {R : α → β → Prop} : ∀ {l l' : List α} {m m' : List β}, Paired R l m → Paired R l' m' → Paired R (l ++ l') (m ++ m')
  | _, _, _, _, .nil, h => h
  | _, _, _, _, .cons a b, h => .cons a (pd_app b h)
theorem pd_set {α β : Type} {R : α → β → Prop} {a : α} {b : β} (r : R a b) : ∀ {l : List α} {m : List β} (i : Nat), Paired R l m → Paired R (l.set i a) (m.set i b)
  | _, _, _, .nil => .nil
  | _, _, 0, .cons _ t => .cons r t
  | _, _, i + 1, .cons q t => .cons q (pd_set r i t)
theorem pd_take {α β : Type} {R : α → β → Prop} : ∀ {l : List α} {m : List β} (n : Nat), Paired R l m → Paired R (l.take n) (m.take n)
  | _, _, 0, _ => .nil
  | _, _, _ + 1, .nil => .nil
  | _, _, n + 1, .cons r t => .cons r (pd_take n t)
theorem pd_drop {α β : Type} {R : α → β → Prop} : ∀ {l : List α} {m : List β} (n : Nat), Paired R l m → Paired R (l.drop n) (m.drop n)
  | _, _, 0, h => h
  | _, _, _ + 1, .nil => .nil
  | _, _, n + 1, .cons _ t => pd_drop n t
theorem pd_map {α β α' β' : Type} {R : α → β → Prop} {S : α' → β' → Prop} (f : α → α') (g : β → β') (h : ∀ a b, R a b → S (f a) (g b)) : ∀ {l : List α} {m : List β}, Paired R l m → Paired S (l.map f) (m.map g)
  | _, _, .nil => .nil
  | _, _, .cons a b => .cons (h _ _ a) (pd_map f g h b)

/-- a value over frozen data and the cells' addresses -/
def RepT (K : PySem.W.Frag) (F : Hp) (A : List Addr) : T → V → Prop
  | .d x, v => Rep K F x v
  | .p n, v => ∃ a, A[n]? = some a ∧ v = .ref a
theorem RepT.mono {K : PySem.W.Frag} {F F' : Hp} {A A' : List Addr} (e : Same F F') (p : A <+: A') {t : T} {v : V} (h : RepT K F A t v) : RepT K F' A' t v := by
  cases t with
  | d x => exact Rep.mono e h
  | p n =>
    obtain ⟨a, h1, h2⟩ := h
    obtain ⟨r, rfl⟩ := p
    exact ⟨a, by rw [List.getElem?_append_left (List.getElem?_eq_some_iff.mp h1).1]; exact h1, h2⟩

/-- the world: what is frozen, all that is tracked, where the cells are, what they hold -/
structure Wd where
  F : Hp
  H : Hp
  A : List Addr
  μ : Mu
def Wd.live (w : Wd) (b : Addr) : Prop := ∃ (n : Nat) (c : Cell), w.A[n]? = some b ∧ w.μ[n]? = some c ∧ c.live = true
abbrev Wd.t (K : PySem.W.Frag) (w : Wd) : T → V → Prop := RepT K w.F w.A
def CellOk (K : PySem.W.Frag) (w : Wd) (b : Addr) : Cell → Prop
  | .lst xs => w.F b = none ∧ ∃ vs, w.H b = some (.lst vs) ∧ Paired (w.t K) xs vs
  | .dct kvs => w.F b = none ∧ ∃ ws, w.H b = some (.dK ws) ∧ Paired (fun p q => p.1 = q.1 ∧ w.t K p.2 q.2) kvs ws
  | .obj C fs => w.F b = none ∧ ∃ dx gs, w.H b = some (.ins C dx gs) ∧ Paired (fun p q => p.1 = q.1 ∧ w.t K p.2 q.2) fs gs
  | .frz x => Rep K w.F x (.ref b)
structure StOk (K : PySem.W.Frag) (w : Wd) : Prop where
  sub : Same w.F w.H
  len : w.A.length = w.μ.length
  nd : w.A.Nodup
  tr : ∀ b ∈ w.A, w.H b ≠ none
  cell : ∀ (n : Nat) (b : Addr) (c : Cell), w.A[n]? = some b → w.μ[n]? = some c → CellOk K w b c
structure Ext (w w' : Wd) : Prop where
  sub : Same w.F w'.F
  pre : w.A <+: w'.A
  dom : ∀ b, w'.H b = none → w.H b = none
  keep : ∀ b o, w.H b = some o → ¬ w.live b → w'.H b = some o
  capt : ∀ b, w.F b = none → w.H b ≠ none → ¬ w.live b → w'.F b = none
  lv : ∀ b, w'.live b → w.H b ≠ none → w.live b
  new : ∀ b, b ∈ w'.A → w.H b ≠ none → b ∈ w.A
theorem Ext.refl (w : Wd) : Ext w w := ⟨Same.refl _, List.prefix_refl _, fun _ h => h, fun _ _ h _ => h, fun _ h _ _ => h, fun _ h _ => h, fun _ h _ => h⟩
theorem Ext.trans {w w1 w2 : Wd} (a : Ext w w1) (b : Ext w1 w2) : Ext w w2 where
  sub := a.sub.trans b.sub
  pre := a.pre.trans b.pre
  dom := fun x h => a.dom x (b.dom x h)
  keep := fun x o h l => b.keep x o (a.keep x o h l) fun l1 => l (a.lv x l1 (by rw [h]; simp))
  capt := fun x h n l => b.capt x (a.capt x h n l) (fun q => n (a.dom x q)) fun l1 => l (a.lv x l1 n)
  lv := fun x h n => a.lv x (b.lv x h fun q => n (a.dom x q)) n
  new := fun x h n => a.new x (b.new x h fun q => n (a.dom x q)) n
theorem Ext.t {K : PySem.W.Frag} {w w' : Wd} (e : Ext w w') {x : T} {v : V} (h : w.t K x v) : w'.t K x v := RepT.mono e.sub e.pre h
theorem StOk.fs {K : PySem.W.Frag} {w : Wd} (s : StOk K w) {b : Addr} (h : w.H b = none) : w.F b = none := by
  cases q : w.F b with
  | none => rfl
  | some o => rw [s.sub b o q] at h; cases h
theorem StOk.liveF {K : PySem.W.Frag} {w : Wd} (s : StOk K w) {b : Addr} (h : w.live b) : w.F b = none ∧ w.H b ≠ none := by
  obtain ⟨n, c, h1, h2, h3⟩ := h
  have q := s.cell n b c h1 h2
  cases c with
  | lst => obtain ⟨z, vs, e, _⟩ := q; exact ⟨z, by rw [e]; simp⟩
  | dct => obtain ⟨z, vs, e, _⟩ := q; exact ⟨z, by rw [e]; simp⟩
  | obj => obtain ⟨z, dx, vs, e, _⟩ := q; exact ⟨z, by rw [e]; simp⟩
  | frz => cases h3
end Fm
set_option Elab.async false
set_option linter.all false
set_option maxRecDepth 100000
namespace Fm
open PySem L2

def ExnOk (K : PySem.W.Frag) (w : Wd) (x : Exn) (cls : Value) (d : Option Addr) : Prop :=
  cls = .ref x.cls ∧ match x.fs with
    | none => d = none
    | some fs => ∃ a gs, d = some a ∧ w.F a = some (.xd gs) ∧ Paired (fun p q => p.1 = q.1 ∧ Rep K w.F p.2 q.2) fs gs
abbrev RT (α β : Type) := Wd → Wd → α → β → Prop
/-- from the world w on, the reading t does what f says -/
def At {α β : Type} (K : PySem.W.Frag) (E : XK) (w : Wd) (t : (β → Hp → Prop) → Prop) (f : M α) (R : RT α β) : Prop :=
  StOk K w → ∀ r, f w.μ = some r → ∀ Q : β → Hp → Prop,
    (∀ a w' b, r = .ok a w'.μ → Ext w w' → StOk K w' → R w w' a b → Q b w'.H) →
    (∀ x w' cls d, r = .ex x w'.μ → Ext w w' → StOk K w' → ExnOk K w' x cls d → E cls d w'.H) → t Q
section
variable {K : PySem.W.Frag} {E : XK} {α β γ δ : Type}
theorem At.ret {w : Wd} {a : α} {b : β} {R : RT α β} (h : R w w a b) : At K E w (fun Q => Q b w.H) (mret a) R := fun s r e Q q _ => by
  cases e
  exact q a w b rfl (Ext.refl w) s h
theorem At.bind {w : Wd} {t : (β → Hp → Prop) → Prop} {f : M α} {R : RT α β} {u : β → Hp → (δ → Hp → Prop) → Prop} {g : α → M γ} {R2 : RT γ δ} (hm : ∀ w w1 w2 a b, Ext w w1 → R2 w1 w2 a b → R2 w w2 a b) (h1 : At K E w t f R)
    (h2 : ∀ a b w1, Ext w w1 → StOk K w1 → R w w1 a b → At K E w1 (u b w1.H) (g a) R2) : At K E w (fun Q => t fun b H1 => u b H1 Q) (mbind f g) R2 := fun s r e Q q x => by
  unfold mbind at e
  cases hf : f w.μ with
  | none => rw [hf] at e; cases e
  | some r1 =>
    rw [hf] at e
    cases r1 with
    | ex y μ1 =>
      cases e
      refine h1 s _ hf _ (fun a w' b z => by cases z) fun y' w' cls d z e1 s1 k => ?_
      cases z
      exact x _ w' cls d rfl e1 s1 k
    | ok a μ1 =>
      refine h1 s _ hf _ (fun a' w1 b z e1 s1 k => ?_) fun _ _ _ _ z => by cases z
      cases z
      refine h2 _ _ w1 e1 s1 k s1 r e Q (fun c w2 d' z e2 s2 k2 => ?_) fun y w2 cls d' z e2 s2 k2 => ?_
      · exact q c w2 d' z (e1.trans e2) s2 (hm _ _ _ _ _ e1 k2)
      · exact x y w2 cls d' z (e1.trans e2) s2 k2
/-- the same by another function that tells no more, another relation that asks no more -/
theorem At.imp {w : Wd} {t : (β → Hp → Prop) → Prop} {f : M α} {R R' : RT α β} (h : At K E w t f R) (hr : ∀ w' a b, Ext w w' → StOk K w' → R w w' a b → R' w w' a b) : At K E w t f R' := fun s r e Q q x =>
  h s r e Q (fun a w' b z e1 s1 k => q a w' b z e1 s1 (hr w' a b e1 s1 k)) x
theorem At.wk {w : Wd} {t t' : (β → Hp → Prop) → Prop} {f : M α} {R : RT α β} (h : At K E w t f R) (ht : ∀ Q, t Q → t' Q) : At K E w t' f R := fun s r e Q q x => ht Q (h s r e Q q x)
/-- a step that asks nothing of the store -/
theorem At.pure {w : Wd} {t : (β → Hp → Prop) → Prop} {o : Option α} {R : RT α β} (h : StOk K w → ∀ a, o = some a → ∃ b, R w w a b ∧ ∀ Q, Q b w.H → t Q) : At K E w t (mof o) R := fun s r e Q q _ => by
  unfold mof at e
  cases o with
  | none => cases e
  | some a =>
    cases e
    obtain ⟨b, h1, h2⟩ := h s a rfl
    exact h2 Q (q a w b rfl (Ext.refl w) s h1)
end

/-! ### what an expression gives: a value, a truth, arguments, a new object -/
abbrev Rho := List (Option T)
def EnvOk (K : PySem.W.Frag) (w : Wd) (σ : St) (ρ : Rho) : Prop := σ.length = ρ.length ∧ ∀ (i : Nat) (x : T), ρ[i]? = some (some x) → ∃ v, σ[i]? = some (some v) ∧ w.t K x v
theorem EnvOk.ext {K : PySem.W.Frag} {w w' : Wd} {σ : St} {ρ : Rho} (h : EnvOk K w σ ρ) (e : Ext w w') : EnvOk K w' σ ρ := ⟨h.1, fun i x hx => by
  obtain ⟨v, h1, h2⟩ := h.2 i x hx
  exact ⟨v, h1, e.t h2⟩⟩
def RV (K : PySem.W.Frag) : RT T V := fun _ w' x v => w'.t K x v
def RB : RT Bool Bool := fun _ _ a b => a = b
def RL (K : PySem.W.Frag) : RT (List T) (List V) := fun _ w' xs vs => Paired (w'.t K) xs vs
/-- a new object: nothing else knows it yet -/
def RC (K : PySem.W.Frag) : RT Cell V := fun w w' c v => ∃ p, v = .ref p ∧ w.H p = none ∧ p ∉ w'.A ∧ c.live = true ∧ CellOk K w' p c
abbrev EF := Rho → M T
abbrev TF := Rho → M Bool
abbrev AF := Rho → M (List T)
abbrev CF := Rho → M Cell
def EOk (K : PySem.W.Frag) (E : XK) (t : TE) (f : EF) : Prop := ∀ w σ ρ, EnvOk K w σ ρ → At K E w (t σ w.H) (f ρ) (RV K)
def BOk (K : PySem.W.Frag) (E : XK) (t : TT) (f : TF) : Prop := ∀ w σ ρ, EnvOk K w σ ρ → At K E w (t σ w.H) (f ρ) RB
def LOk (K : PySem.W.Frag) (E : XK) (t : TA) (f : AF) : Prop := ∀ w σ ρ, EnvOk K w σ ρ → At K E w (t σ w.H) (f ρ) (RL K)
def COk (K : PySem.W.Frag) (E : XK) (t : TE) (f : CF) : Prop := ∀ w σ ρ, EnvOk K w σ ρ → At K E w (t σ w.H) (f ρ) (RC K)
theorem rv_m {K : PySem.W.Frag} : ∀ w w1 w2 a b, Ext w w1 → RV K w1 w2 a b → RV K w w2 a b := fun _ _ _ _ _ _ h => h
theorem rb_m : ∀ w w1 w2 a b, Ext w w1 → RB w1 w2 a b → RB w w2 a b := fun _ _ _ _ _ _ h => h
theorem rl_m {K : PySem.W.Frag} : ∀ w w1 w2 a b, Ext w w1 → RL K w1 w2 a b → RL K w w2 a b := fun _ _ _ _ _ _ h => h
theorem rc_m {K : PySem.W.Frag} : ∀ w w1 w2 a b, Ext w w1 → RC K w1 w2 a b → RC K w w2 a b := fun _ _ _ _ _ e ⟨p, h1, h2, h3⟩ => ⟨p, h1, e.dom _ h2, h3⟩

/-- a cell that has become data is read as the data -/
def fzAt (μ : Mu) (n : Nat) : Option D := match μ[n]? with
  | some (.frz x) => some x
  | _ => none
theorem fzAt_some {μ : Mu} {n : Nat} {x : D} (h : fzAt μ n = some x) : μ[n]? = some (.frz x) := by
  unfold fzAt at h
  cases q : μ[n]? with
  | none => rw [q] at h; cases h
  | some c =>
    rw [q] at h
    cases c <;> cases h
    rfl
@[simp] def rd (μ : Mu) : T → T
  | .d x => .d x
  | .p n => match fzAt μ n with
    | some x => .d x
    | none => .p n
theorem rd_p {μ : Mu} {n : Nat} : rd μ (.p n) = match fzAt μ n with
    | some x => T.d x
    | none => T.p n := rfl
theorem rd_ok {K : PySem.W.Frag} {w : Wd} (s : StOk K w) {x : T} {v : V} (h : w.t K x v) : w.t K (rd w.μ x) v := by
  cases x with
  | d x => exact h
  | p n =>
    obtain ⟨a, h1, h2⟩ := id h
    rw [rd_p]
    cases q : fzAt w.μ n with
    | none => exact h
    | some y =>
      have z := s.cell n a _ h1 (fzAt_some q)
      rw [h2]
      exact z

/-! ### freezing: a new object, or a cell, becomes data -/
def dT : T → Option D
  | .d x => some x
  | _ => none
def dTs (μ : Mu) : List T → Option (List D)
  | [] => some []
  | x :: r => match rd μ x, dTs μ r with
    | .d y, some ys => some (y :: ys)
    | _, _ => none
def dKs {κ : Type} (μ : Mu) : List (κ × T) → Option (List (κ × D))
  | [] => some []
  | (k, x) :: r => match rd μ x, dKs μ r with
    | .d y, some ys => some ((k, y) :: ys)
    | _, _ => none
def Cell.data (μ : Mu) : Cell → Option D
  | .lst xs => (dTs μ xs).map D.lst
  | .dct kvs => (dKs μ kvs).map D.dct
  | .frz x => some x
  | .obj _ _ => none
section
variable {K : PySem.W.Frag} {w : Wd}
theorem dTs_ok (s : StOk K w) : ∀ {xs : List T} {vs : List V} {ds : List D}, Paired (w.t K) xs vs → dTs w.μ xs = some ds → Reps K w.F ds vs
  | [], _, _, .nil, e => by cases e; rfl
  | x :: xs, v :: vs, ds, .cons h t, e => by
    unfold dTs at e
    have q := rd_ok s h
    split at e
    · rename_i y ys h1 h2
      cases e
      rw [h1] at q
      exact ⟨v, vs, rfl, q, dTs_ok s t h2⟩
    · cases e
theorem dKs_ok (s : StOk K w) : ∀ {xs : List (Key × T)} {vs : List (Key × V)} {ds : List (Key × D)}, Paired (fun p q => p.1 = q.1 ∧ w.t K p.2 q.2) xs vs → dKs w.μ xs = some ds → RepK K w.F ds vs
  | [], _, _, .nil, e => by cases e; rfl
  | (k, x) :: xs, (k', v) :: vs, ds, .cons h t, e => by
    unfold dKs at e
    obtain ⟨h0, h⟩ := h
    cases h0
    have q := rd_ok s h
    split at e
    · rename_i y ys h1 h2
      cases e
      rw [h1] at q
      exact ⟨v, vs, rfl, q, dKs_ok s t h2⟩
    · cases e
/-- the world with one more frozen address -/
def Wd.fz (w : Wd) (p : Addr) (μ' : Mu) : Wd := { w with F := fun b => if b = p then w.H p else w.F b, μ := μ' }
theorem fz_same {p : Addr} (h : w.F p = none) (μ' : Mu) : Same w.F (w.fz p μ').F := fun b o e => by
  show (if b = p then w.H p else w.F b) = some o
  rw [if_neg (fun q => by rw [q, h] at e; cases e)]
  exact e
theorem fz_at {p : Addr} {o : HO} {μ' : Mu} (h : w.H p = some o) : (w.fz p μ').F p = some o := by
  show (if p = p then w.H p else w.F p) = some o
  rw [if_pos rfl]
  exact h
theorem data_rep (s : StOk K w) {p : Addr} {c : Cell} {x : D} (hc : CellOk K w p c) (hx : c.data w.μ = some x) (hl : c.live = true) (μ' : Mu) : Rep K (w.fz p μ').F x (.ref p) := by
  cases c with
  | frz => cases hl
  | obj => cases hx
  | lst xs =>
    obtain ⟨h0, vs, h1, h2⟩ := hc
    obtain ⟨ds, e1, e2⟩ := Option.map_eq_some_iff.mp hx
    cases e2
    exact ⟨p, vs, rfl, fz_at h1, (dTs_ok s h2 e1).mono (fz_same h0 μ')⟩
  | dct kvs =>
    obtain ⟨h0, vs, h1, h2⟩ := hc
    obtain ⟨ds, e1, e2⟩ := Option.map_eq_some_iff.mp hx
    cases e2
    exact ⟨p, vs, rfl, fz_at h1, (dKs_ok s h2 e1).mono (fz_same h0 μ')⟩
theorem CellOk.rep {w w' : Wd} {b : Addr} {c : Cell} (h : CellOk K w b c) (hs : Same w.F w'.F) (hp : w.A <+: w'.A) (hF : c.live = true → w'.F b = none) (hH : c.live = true → w'.H b = w.H b) : CellOk K w' b c := by
  have m : ∀ x v, w.t K x v → w'.t K x v := fun x v q => RepT.mono hs hp q
  cases c with
  | frz x => exact Rep.mono hs h
  | lst xs =>
    obtain ⟨h0, vs, h1, h2⟩ := h
    exact ⟨hF rfl, vs, by rw [hH rfl]; exact h1, pd_imp m h2⟩
  | dct xs =>
    obtain ⟨h0, vs, h1, h2⟩ := h
    exact ⟨hF rfl, vs, by rw [hH rfl]; exact h1, pd_imp (fun _ _ q => ⟨q.1, m _ _ q.2⟩) h2⟩
  | obj C xs =>
    obtain ⟨h0, dx, vs, h1, h2⟩ := h
    exact ⟨hF rfl, dx, vs, by rw [hH rfl]; exact h1, pd_imp (fun _ _ q => ⟨q.1, m _ _ q.2⟩) h2⟩
theorem CellOk.nn {b : Addr} {c : Cell} (h : CellOk K w b c) (l : c.live = true) : w.F b = none ∧ ∃ o, w.H b = some o := by
  cases c with
  | frz => cases l
  | lst => obtain ⟨z, vs, e, _⟩ := h; exact ⟨z, _, e⟩
  | dct => obtain ⟨z, vs, e, _⟩ := h; exact ⟨z, _, e⟩
  | obj => obtain ⟨z, dx, vs, e, _⟩ := h; exact ⟨z, _, e⟩
/-- a new object that is not a cell becomes frozen -/
theorem fz_new (s : StOk K w) {p : Addr} {c : Cell} (hA : p ∉ w.A) (hc : CellOk K w p c) (hl : c.live = true) : StOk K (w.fz p w.μ) := by
  obtain ⟨h0, o, ho⟩ := hc.nn hl
  refine ⟨fun b o' e => ?_, s.len, s.nd, s.tr, fun n b c' e1 e2 => ?_⟩
  · show w.H b = some o'
    by_cases hb : b = p
    · subst hb
      have e : (if b = b then w.H b else w.F b) = some o' := e
      rw [if_pos rfl] at e
      exact e
    · have e : (if b = p then w.H p else w.F b) = some o' := e
      rw [if_neg hb] at e
      exact s.sub b o' e
  · refine (s.cell n b c' e1 e2).rep (fz_same h0 w.μ) (List.prefix_refl _) (fun l => ?_) fun _ => rfl
    show (if b = p then w.H p else w.F b) = none
    rw [if_neg (fun z => hA (by rw [← z]; exact List.mem_of_getElem? e1))]
    exact ((s.cell n b c' e1 e2).nn l).1
theorem fz_new_ext {w0 : Wd} {p : Addr} {c : Cell} (e : Ext w0 w) (hp : w0.H p = none) (hc : CellOk K w p c) (hl : c.live = true) : Ext w0 (w.fz p w.μ) where
  sub := e.sub.trans (fz_same (hc.nn hl).1 w.μ)
  pre := e.pre
  dom := e.dom
  keep := e.keep
  capt := fun b h1 h2 h3 => by
    show (if b = p then w.H p else w.F b) = none
    rw [if_neg (fun z => h2 (by rw [z]; exact hp))]
    exact e.capt b h1 h2 h3
  lv := e.lv
  new := e.new
def fzC (c : Cell) : M T := fun μ => match c.data μ with
  | some x => some (.ok (.d x) μ)
  | none => none
/-- a new object at once taken as data -/
def eFz (f : CF) : EF := fun ρ => mbind (f ρ) fzC
theorem eok_fz {E : XK} {t : TE} {f : CF} (h : COk K E t f) : EOk K E t (eFz f) := fun w σ ρ ev s r e Q q x => by
  unfold eFz mbind at e
  cases hf : f ρ w.μ with
  | none => rw [hf] at e; cases e
  | some r1 =>
    rw [hf] at e
    cases r1 with
    | ex y μ1 =>
      cases e
      exact h w σ ρ ev s _ hf Q (fun a w' b z => by cases z) fun y' w' cls d z => by cases z; exact x _ w' cls d rfl
    | ok c μ1 =>
      refine h w σ ρ ev s _ hf Q (fun a w' b z e1 s1 k => ?_) fun _ _ _ _ z => by cases z
      cases z
      obtain ⟨p, rfl, hp, hA, hl, hc⟩ := k
      have e : fzC c w'.μ = some r := e
      unfold fzC at e
      cases hd : c.data w'.μ with
      | none => rw [hd] at e; cases e
      | some y =>
        rw [hd] at e
        cases e
        exact q (.d y) (w'.fz p w'.μ) (.ref p) rfl (fz_new_ext e1 hp hc hl) (fz_new s1 hA hc hl) (data_rep s1 hc hd hl w'.μ)
/-- a new object becomes a cell -/
def nwC (c : Cell) : M T := fun μ => some (.ok (.p μ.length) (μ ++ [c]))
def eNew (f : CF) : EF := fun ρ => mbind (f ρ) nwC
theorem get_snoc {α : Type} {l : List α} {a x : α} {n : Nat} (h : (l ++ [a])[n]? = some x) : l[n]? = some x ∨ (n = l.length ∧ x = a) := by
  by_cases hn : n < l.length
  · rw [List.getElem?_append_left hn] at h
    exact .inl h
  · have q := (List.getElem?_eq_some_iff.mp h).1
    rw [List.length_append, List.length_singleton] at q
    have e : n = l.length := by omega
    subst e
    rw [List.getElem?_append_right (Nat.le_refl _), Nat.sub_self] at h
    exact .inr ⟨rfl, (Option.some.inj h).symm⟩
def Wd.nw (w : Wd) (p : Addr) (c : Cell) : Wd := { w with A := w.A ++ [p], μ := w.μ ++ [c] }
theorem nw_ok (s : StOk K w) {p : Addr} {c : Cell} (hA : p ∉ w.A) (hl : c.live = true) (hc : CellOk K w p c) : StOk K (w.nw p c) := by
  refine ⟨s.sub, ?_, ?_, fun b hb => ?_, fun n b c' e1 e2 => ?_⟩
  · show (w.A ++ [p]).length = (w.μ ++ [c]).length
    rw [List.length_append, List.length_append, s.len] <;> rfl
  · show (w.A ++ [p]).Nodup
    rw [List.nodup_append]
    refine ⟨s.nd, by simp, fun a ha b hb => ?_⟩
    rw [List.mem_singleton.mp hb]
    intro z
    exact hA (z ▸ ha)
  · have hb : b ∈ w.A ++ [p] := hb
    rcases List.mem_append.mp hb with q | q
    · exact s.tr b q
    · rw [List.mem_singleton.mp q]
      obtain ⟨_, o, e⟩ := hc.nn hl
      show w.H p ≠ none
      rw [e]
      simp
  · have pre : w.A <+: (w.nw p c).A := ⟨[p], rfl⟩
    have e1 : (w.A ++ [p])[n]? = some b := e1
    have e2 : (w.μ ++ [c])[n]? = some c' := e2
    rcases get_snoc e1 with q1 | ⟨q1, q1'⟩
    · rcases get_snoc e2 with q2 | ⟨q2, _⟩
      · exact (s.cell n b c' q1 q2).rep (Same.refl _) pre (fun l => ((s.cell n b c' q1 q2).nn l).1) fun _ => rfl
      · have := (List.getElem?_eq_some_iff.mp q1).1
        rw [s.len] at this
        omega
    · rcases get_snoc e2 with q2 | ⟨_, q2'⟩
      · have := (List.getElem?_eq_some_iff.mp q2).1
        rw [← s.len] at this
        omega
      · rw [q1', q2']
        exact hc.rep (Same.refl _) pre (fun l => (hc.nn l).1) fun _ => rfl
theorem nw_ext {w0 : Wd} {p : Addr} {c : Cell} (s : StOk K w) (e : Ext w0 w) (hp : w0.H p = none) : Ext w0 (w.nw p c) where
  sub := e.sub
  pre := e.pre.trans ⟨[p], rfl⟩
  dom := e.dom
  keep := e.keep
  capt := e.capt
  lv := fun b ⟨n, c', e1, e2, e3⟩ h => by
    have e1 : (w.A ++ [p])[n]? = some b := e1
    have e2 : (w.μ ++ [c])[n]? = some c' := e2
    rcases get_snoc e1 with q1 | ⟨q1, q1'⟩
    · rcases get_snoc e2 with q2 | ⟨q2, _⟩
      · exact e.lv b ⟨n, c', q1, q2, e3⟩ h
      · have := (List.getElem?_eq_some_iff.mp q1).1
        rw [s.len] at this
        omega
    · exact absurd hp (by rw [← q1']; exact h)
  new := fun b h1 h2 => by
    have h1 : b ∈ w.A ++ [p] := h1
    rcases List.mem_append.mp h1 with q | q
    · exact e.new b q h2
    · rw [List.mem_singleton.mp q] at h2
      exact absurd hp h2
theorem eok_new {E : XK} {t : TE} {f : CF} (h : COk K E t f) : EOk K E t (eNew f) := fun w σ ρ ev s r e Q q x => by
  unfold eNew mbind at e
  cases hf : f ρ w.μ with
  | none => rw [hf] at e; cases e
  | some r1 =>
    rw [hf] at e
    cases r1 with
    | ex y μ1 =>
      cases e
      exact h w σ ρ ev s _ hf Q (fun a w' b z => by cases z) fun y' w' cls d z => by cases z; exact x _ w' cls d rfl
    | ok c μ1 =>
      refine h w σ ρ ev s _ hf Q (fun a w' b z e1 s1 k => ?_) fun _ _ _ _ z => by cases z
      cases z
      obtain ⟨p, rfl, hp, hA, hl, hc⟩ := k
      cases e
      refine q _ (w'.nw p c) (.ref p) rfl (nw_ext s1 e1 hp) (nw_ok s1 hA hl hc) ⟨p, ?_, rfl⟩
      show (w'.A ++ [p])[w'.μ.length]? = some p
      rw [← s1.len, List.getElem?_append_right (Nat.le_refl _), Nat.sub_self] <;> rfl
end
end Fm
set_option Elab.async false
set_option linter.all false
set_option maxRecDepth 100000
namespace Fm
open PySem L2

/-! ### an expression of the text and what it does over the store -/
structure PD (K : PySem.W.Frag) (X : Cx) (E : XK) (e : Expr) (t : TE) (f : EF) : Prop where
  pe : PE X e t
  ok : EOk K E t f
structure PCr (K : PySem.W.Frag) (X : Cx) (E : XK) (e : Expr) (t : TE) (f : CF) : Prop where
  pe : PE X e t
  ok : COk K E t f
structure PB (K : PySem.W.Frag) (X : Cx) (E : XK) (e : Expr) (t : TT) (f : TF) : Prop where
  pe : PT X e t
  ok : BOk K E t f
structure PWB (K : PySem.W.Frag) (X : Cx) (E : XK) (e : Expr) (t : TT) (f : TF) : Prop where
  pe : PW X e t
  ok : BOk K E t f
structure PL (K : PySem.W.Frag) (X : Cx) (E : XK) (es : List Expr) (t : TA) (f : AF) : Prop where
  pe : PA X es t
  ok : LOk K E t f
section
variable {X : Cx} {E : XK} {K : PySem.W.Frag}
theorem pd_fz {e : Expr} {t : TE} {f : CF} (h : PCr K X E e t f) : PD K X E e t (eFz f) := ⟨h.pe, eok_fz h.ok⟩
theorem pd_new {e : Expr} {t : TE} {f : CF} (h : PCr K X E e t f) : PD K X E e t (eNew f) := ⟨h.pe, eok_new h.ok⟩

/-! ### names, constants -/
@[simp] def slotT (ρ : Rho) (i : Nat) : Option T := match ρ[i]? with
  | some (some x) => some x
  | _ => none
theorem slotT_some {ρ : Rho} {i : Nat} {x : T} (h : slotT ρ i = some x) : ρ[i]? = some (some x) := by
  unfold slotT at h
  split at h
  · cases h; assumption
  · cases h
/-- a name as a value; a cell stays a cell -/
@[simp] def eVar (i : Nat) : EF := fun ρ => mof (slotT ρ i)
theorem pd_var (i : Nat) {x : Str} {pos : Pos} (hN : X.N[i]? = some x := by rfl) (hv : Vis X.env.scope x := by first | exact Or.inl rfl | exact Or.inr (Or.inl rfl) | exact Or.inr (Or.inr rfl)) (hd : (x == ("__debug__" : Str)) = false := by decide)
    (hcd : (x == ("__classdict__" : Str)) = false := by decide) : PD K X E (.Name x pos) (tVar i) (eVar i) :=
  ⟨pe_var hN hv hd hcd, fun w σ ρ ev => At.pure fun _ a ha => by
    obtain ⟨v, h1, h2⟩ := ev.2 i a (slotT_some ha)
    exact ⟨v, h2, fun Q q => ⟨v, h1, q⟩⟩⟩
@[simp] def eC (x : D) : EF := fun _ => mret (.d x)
theorem eok_c {v : V} {x : D} (h : ∀ F, Rep K F x v) : EOk K E (tC v) (eC x) := fun w σ ρ _ => At.ret (R := RV K) (h w.F)
theorem pd_int {i j pos} : PD K X E (.Constant (.int i) j pos) (tC (.int i)) (eC (.int i)) := ⟨pe_int, eok_c fun _ => rfl⟩
theorem pd_bl {b j pos} : PD K X E (.Constant (.bool b) j pos) (tC (.bl b)) (eC (.bl b)) := ⟨pe_bl, eok_c fun _ => rfl⟩
theorem pd_non {j pos} : PD K X E (.Constant .none j pos) (tC .non) (eC .non) := ⟨pe_non, eok_c fun _ => rfl⟩
theorem pd_str {x j pos} : PD K X E (.Constant (.str x) j pos) (tC (.str x)) (eC (.str x)) := ⟨pe_str, eok_c fun _ => rfl⟩
/-- a constant of the module -/
theorem pd_glob {x : Str} {v : V} {d : D} {u : Value} {pos : Pos} (hg : Gl X x) (hm : X.mg x = some u) (r : RelV v u) (h : ∀ F, Rep K F d v) (hd : (x == ("__debug__" : Str)) = false := by decide) : PD K X E (.Name x pos) (tC v) (eC d) :=
  ⟨pe_glob hg hm r hd, eok_c h⟩

/-! ### operations on values -/
abbrev G2 := Mu → T → T → Option T
def OpV (K : PySem.W.Frag) (r : R2) (g : G2) : Prop := ∀ (w : Wd) (x y : T) (vx vy : V) (z : T), StOk K w → w.t K x vx → w.t K y vy → g w.μ x y = some z → ∃ v, w.t K z v ∧ ∀ Q : VK, Q v w.H → r vx vy w.H Q
structure OpD (K : PySem.W.Frag) (X : Cx) (f : Value → Value → Sem Value) (r : R2) (g : G2) : Prop where
  op : OpR X f r
  ov : OpV K r g
@[simp] def g2or (g h : G2) : G2 := fun μ x y => match g μ x y with
  | some z => some z
  | none => h μ x y
theorem OpV.or {r q : R2} {g h : G2} (r2 : OpV K r g) (q2 : OpV K q h) : OpV K (fun x y H Q => r x y H Q ∨ q x y H Q) (g2or g h) := fun w x y vx vy z s hx hy e => by
  unfold g2or at e
  split at e
  · rename_i z' hz
    cases e
    obtain ⟨v, h1, h2⟩ := r2 w x y vx vy z s hx hy hz
    exact ⟨v, h1, fun Q k => .inl (h2 Q k)⟩
  · obtain ⟨v, h1, h2⟩ := q2 w x y vx vy z s hx hy e
    exact ⟨v, h1, fun Q k => .inr (h2 Q k)⟩
theorem OpD.or {f : Value → Value → Sem Value} {r q : R2} {g h : G2} (a : OpD K X f r g) (b : OpD K X f q h) : OpD K X f (fun x y H Q => r x y H Q ∨ q x y H Q) (g2or g h) := ⟨a.op.or b.op, a.ov.or b.ov⟩
/-- the step behind the operands -/
@[simp] def stp (g : G2) (x y : T) : M T := fun μ => match g μ (rd μ x) (rd μ y) with
  | some z => some (.ok z μ)
  | none => none
@[simp] def eOp (g : G2) (fa fb : EF) : EF := fun ρ => mbind (fa ρ) fun x => mbind (fb ρ) fun y => stp g x y
theorem at_stp {r : R2} {g : G2} (h : OpV K r g) {w : Wd} {x y : T} {vx vy : V} (hx : w.t K x vx) (hy : w.t K y vy) : At K E w (r vx vy w.H) (stp g x y) (RV K) := fun s q e Q k _ => by
  unfold stp at e
  split at e
  · rename_i z hz
    cases e
    obtain ⟨v, h1, h2⟩ := h w _ _ vx vy z s (rd_ok s hx) (rd_ok s hy) hz
    exact h2 Q (k z w v rfl (Ext.refl w) s h1)
  · cases e
theorem eok_op {r : R2} {g : G2} {ta tb : TE} {fa fb : EF} (h : OpV K r g) (ha : EOk K E ta fa) (hb : EOk K E tb fb) : EOk K E (tOp r ta tb) (eOp g fa fb) := fun w σ ρ ev => by
  show At K E w (fun Q => ta σ w.H fun x H1 => tb σ H1 fun y H2 => r x y H2 Q) _ _
  exact At.bind rv_m (ha w σ ρ ev) fun x vx w1 e1 s1 hx => At.bind rv_m (hb w1 σ ρ (ev.ext e1)) fun y vy w2 e2 s2 hy => at_stp h (e2.t hx) hy
section
variable {a b : Expr} {fa fb : EF} {g : G2} {r : R2} {ta tb : TE}
theorem pd_bin {op : Operator} {pos : Pos} (o : OpD K X (binaryOp op) r g) (ha : PD K X E a ta fa) (hb : PD K X E b tb fb) : PD K X E (.BinOp a op b pos) (tOp r ta tb) (eOp g fa fb) := ⟨pe_op o.op ha.pe hb.pe, eok_op o.ov ha.ok hb.ok⟩
theorem pd_cmp {op : CmpOp} {pos : Pos} (o : OpD K X (compareOp op) r g) (ha : PD K X E a ta fa) (hb : PD K X E b tb fb) (hm : behindInMarks op b = false := by first | exact nomark _ | rfl) : PD K X E (.Compare a [op] [b] pos) (tOp r ta tb) (eOp g fa fb) :=
  ⟨pe_cmpR o.op ha.pe hb.pe hm, eok_op o.ov ha.ok hb.ok⟩
/-- a truth of a value that is True or False -/
@[simp] def bOf (x : T) : M Bool := fun μ => match rd μ x with
  | .d (.bl b) => some (.ok b μ)
  | _ => none
@[simp] def bE (f : EF) : TF := fun ρ => mbind (f ρ) bOf
theorem at_bOf {w : Wd} {x : T} {v : V} (h : w.t K x v) : At K E w (fun Q : Bool → Hp → Prop => ∃ k, v = .bl k ∧ Q k w.H) (bOf x) RB := fun s q e Q k _ => by
  unfold bOf at e
  have h := rd_ok s h
  split at e
  · rename_i b hb
    cases e
    rw [hb] at h
    exact ⟨b, h, k b w b rfl (Ext.refl w) s rfl⟩
  · cases e
theorem bok_E {t : TE} {f : EF} (h : EOk K E t f) : BOk K E (tTest t) (bE f) := fun w σ ρ ev => by
  show At K E w (fun Q => t σ w.H fun x H1 => ∃ k, x = .bl k ∧ Q k H1) _ _
  exact At.bind rb_m (h w σ ρ ev) fun x v w1 _ _ hx => at_bOf hx
theorem pb_cmp {op : CmpOp} {pos : Pos} (o : OpD K X (compareOp op) r g) (ha : PD K X E a ta fa) (hb : PD K X E b tb fb) (hm : behindInMarks op b = false := by first | exact nomark _ | rfl) : PB K X E (.Compare a [op] [b] pos) (tTest (tOp r ta tb)) (bE (eOp g fa fb)) :=
  ⟨pt_cmpR o.op ha.pe hb.pe hm, bok_E (eok_op o.ov ha.ok hb.ok)⟩
/-- a < b < c -/
def eChain (g g' : G2) (fa fb fc : EF) : EF := fun ρ => mbind (fa ρ) fun x => mbind (fb ρ) fun y => mbind (stp g x y) fun z => mbind (bOf z) fun k => if k = true then mbind (fc ρ) fun u => stp g' y u else mret (.d (.bl false))
theorem eok_chain {r r' : R2} {g g' : G2} {ta tb tc : TE} {fa fb fc : EF} (h : OpV K r g) (h' : OpV K r' g') (ha : EOk K E ta fa) (hb : EOk K E tb fb) (hc : EOk K E tc fc) : EOk K E (tChain r r' ta tb tc) (eChain g g' fa fb fc) := fun w σ ρ ev => by
  show At K E w (fun Q => ta σ w.H fun x H1 => tb σ H1 fun y H2 => r x y H2 fun z H3 => ∃ k, z = .bl k ∧ if k = true then tc σ H3 fun u H4 => r' y u H4 Q else Q (.bl false) H3) _ _
  exact At.bind rv_m (ha w σ ρ ev) fun x vx w1 e1 s1 hx => At.bind rv_m (hb w1 σ ρ (ev.ext e1)) fun y vy w2 e2 s2 hy => by
    refine At.bind rv_m (at_stp h (e2.t hx) hy) fun z vz w3 e3 s3 hz => ?_
    intro s r0 e Q q k
    unfold mbind at e
    cases hb2 : bOf z w3.μ with
    | none => rw [hb2] at e; cases e
    | some rb =>
      rw [hb2] at e
      unfold bOf at hb2
      have hz := rd_ok s hz
      split at hb2
      · rename_i b hbb
        cases hb2
        rw [hbb] at hz
        refine ⟨b, hz, ?_⟩
        cases b with
        | true => exact (At.bind rv_m (hc w3 σ ρ ((ev.ext e1).ext (e2.trans e3))) fun u vu w4 e4 s4 hu => at_stp h' ((e3.trans e4).t hy) hu) s r0 e Q q k
        | false =>
          cases e
          exact q _ w3 (.bl false) rfl (Ext.refl _) s rfl
      · cases hb2
theorem pd_chain {c : Expr} {tc : TE} {fc : EF} {r' : R2} {g' : G2} {op op' : CmpOp} {pos : Pos} (o : OpD K X (compareOp op) r g) (o' : OpD K X (compareOp op') r' g') (ha : PD K X E a ta fa) (hb : PD K X E b tb fb) (hc : PD K X E c tc fc)
    (hm : lastMarks [op, op'] [b, c] = false := by with_unfolding_all rfl) : PD K X E (.Compare a [op, op'] [b, c] pos) (tChain r r' ta tb tc) (eChain g g' fa fb fc) := ⟨pe_chain o.op o'.op ha.pe hb.pe hc.pe hm, eok_chain o.ov o'.ov ha.ok hb.ok hc.ok⟩
theorem pb_chain {c : Expr} {tc : TE} {fc : EF} {r' : R2} {g' : G2} {op op' : CmpOp} {pos : Pos} (o : OpD K X (compareOp op) r g) (o' : OpD K X (compareOp op') r' g') (ha : PD K X E a ta fa) (hb : PD K X E b tb fb) (hc : PD K X E c tc fc)
    (hm : lastMarks [op, op'] [b, c] = false := by with_unfolding_all rfl) : PB K X E (.Compare a [op, op'] [b, c] pos) (tTest (tChain r r' ta tb tc)) (bE (eChain g g' fa fb fc)) := ⟨pt_chain o.op o'.op ha.pe hb.pe hc.pe hm, bok_E (eok_chain o.ov o'.ov ha.ok hb.ok hc.ok)⟩
end

/-! ### a value's truth -/
/-- the items of a list, the pairs of a dict, by the store -/
def lstOf (μ : Mu) : T → Option (List T)
  | .d (.lst ds) => some (ds.map T.d)
  | .d (.kl ns) => some (ns.map fun i => T.d (.int i))
  | .p n => match μ[n]? with
    | some (.lst xs) => some xs
    | _ => none
  | _ => none
def tupOf : T → Option (List D)
  | .d (.tup ds) => some ds
  | _ => none
def dctOf (μ : Mu) : T → Option (List (Key × T))
  | .d (.dct kvs) => some (kvs.map fun p => (p.1, T.d p.2))
  | .p n => match μ[n]? with
    | some (.dct kvs) => some kvs
    | _ => none
  | _ => none
theorem kl_paired {K : PySem.W.Frag} {w : Wd} : ∀ (ns : List Int), Paired (w.t K) (ns.map fun i => T.d (.int i)) (ns.map V.int)
  | [] => .nil
  | n :: r => .cons rfl (kl_paired r)
theorem d_paired {K : PySem.W.Frag} {w : Wd} {ds : List D} {vs : List V} (h : Reps K w.F ds vs) : Paired (w.t K) (ds.map T.d) vs := by
  have q := pd_map (S := w.t K) T.d id (fun a b h => h) (Reps.paired.mp h)
  rw [List.map_id] at q
  exact q
theorem k_paired {K : PySem.W.Frag} {w : Wd} : ∀ {ds : List (Key × D)} {vs : List (Key × V)}, RepK K w.F ds vs → Paired (fun p q => p.1 = q.1 ∧ w.t K p.2 q.2) (ds.map fun p => (p.1, T.d p.2)) vs
  | [], vs, h => by rw [show vs = [] from h]; exact .nil
  | (k, d) :: ds, vs, ⟨v, r, h1, h2, h3⟩ => by rw [h1]; exact .cons ⟨rfl, h2⟩ (k_paired h3)
section
variable {w : Wd}
theorem lst_ok (s : StOk K w) {x : T} {v : V} {xs : List T} (h : w.t K x v) (e : lstOf w.μ x = some xs) : ∃ a vs, v = .ref a ∧ SqL K w.H a vs ∧ Paired (w.t K) xs vs := by
  cases x with
  | d d =>
    cases d with
    | lst ds =>
      cases e
      obtain ⟨a, vs, h1, h2, h3⟩ := h
      exact ⟨a, vs, h1, .of (s.sub _ _ h2), d_paired h3⟩
    | kl ns =>
      cases e
      obtain ⟨a, h1, h2⟩ := h
      exact ⟨a, _, h1, s.sub.seq h2, kl_paired ns⟩
    | _ => cases e
  | p n =>
    obtain ⟨a, h1, h2⟩ := h
    have e : (match w.μ[n]? with | some (.lst xs) => some xs | _ => none) = some xs := e
    split at e
    · rename_i ys hy
      cases e
      obtain ⟨_, vs, q1, q2⟩ := s.cell n a _ h1 hy
      exact ⟨a, vs, h2, .of q1, q2⟩
    · cases e
theorem tup_ok (s : StOk K w) {x : T} {v : V} {xs : List D} (h : w.t K x v) (e : tupOf x = some xs) : ∃ a vs, v = .ref a ∧ w.H a = some (.tup vs) ∧ Paired (w.t K) (xs.map T.d) vs := by
  cases x with
  | d d =>
    cases d with
    | tup ds =>
      cases e
      obtain ⟨a, vs, h1, h2, h3⟩ := h
      exact ⟨a, vs, h1, s.sub _ _ h2, d_paired h3⟩
    | _ => cases e
  | p n => cases e
theorem dct_ok (s : StOk K w) {x : T} {v : V} {xs : List (Key × T)} (h : w.t K x v) (e : dctOf w.μ x = some xs) : ∃ a vs, v = .ref a ∧ w.H a = some (.dK vs) ∧ Paired (fun p q => p.1 = q.1 ∧ w.t K p.2 q.2) xs vs := by
  cases x with
  | d d =>
    cases d with
    | dct ds =>
      cases e
      obtain ⟨a, vs, h1, h2, h3⟩ := h
      exact ⟨a, vs, h1, s.sub _ _ h2, k_paired h3⟩
    | _ => cases e
  | p n =>
    obtain ⟨a, h1, h2⟩ := h
    have e : (match w.μ[n]? with | some (.dct xs) => some xs | _ => none) = some xs := e
    split at e
    · rename_i ys hy
      cases e
      obtain ⟨_, vs, q1, q2⟩ := s.cell n a _ h1 hy
      exact ⟨a, vs, h2, q1, q2⟩
    · cases e
end
abbrev SL : Nat := 16777216
theorem le_SL {n : Nat} (h : n ≤ SL) : n ≤ sizeLine := by rw [sizeLine_eq]; exact h
@[simp] def truth (μ : Mu) (x : T) : Option Bool := match x with
  | .d .non => some false
  | .d (.bl b) => some b
  | .d (.int i) => some (i != 0)
  | .d (.str s) => if s.length ≤ SL then some (s.length != 0) else none
  | _ => match lstOf μ x with
    | some xs => some (!xs.isEmpty)
    | none => match tupOf x with
      | some xs => some (!xs.isEmpty)
      | none => match dctOf μ x with
        | some xs => some (!xs.isEmpty)
        | none => none
theorem emp_paired {α β : Type} {R : α → β → Prop} {l : List α} {m : List β} (h : Paired R l m) : m.isEmpty = l.isEmpty := by cases h <;> rfl
theorem truth_ok {K : PySem.W.Frag} {w : Wd} (s : StOk K w) {x : T} {v : V} {b : Bool} (h : w.t K x v) (e : truth w.μ x = some b) : TruV K v w.H b := by
  have rest : (match lstOf w.μ x with
    | some xs => some (!xs.isEmpty)
    | none => match tupOf x with
      | some xs => some (!xs.isEmpty)
      | none => match dctOf w.μ x with
        | some xs => some (!xs.isEmpty)
        | none => none) = some b → TruV K v w.H b := fun e => by
    split at e
    · rename_i xs hl
      cases e
      obtain ⟨a, vs, h1, h2, h3⟩ := lst_ok s h hl
      subst h1
      exact .inl ⟨vs, h2, by rw [emp_paired h3]⟩
    · split at e
      · rename_i xs hl
        cases e
        obtain ⟨a, vs, h1, h2, h3⟩ := tup_ok s h hl
        subst h1
        exact .inr (.inl ⟨vs, .of h2, by rw [emp_paired h3]; cases xs <;> rfl⟩)
      · split at e
        · rename_i xs hl
          cases e
          obtain ⟨a, vs, h1, h2, h3⟩ := dct_ok s h hl
          subst h1
          exact .inr (.inr ⟨vs, h2, by rw [emp_paired h3]⟩)
        · cases e
  cases x with
  | p n => exact rest e
  | d d =>
    cases d with
    | non => cases e; rw [show v = .non from h]; rfl
    | bl b => cases e; rw [show v = .bl _ from h]; rfl
    | int i => cases e; rw [show v = .int i from h]; rfl
    | str z =>
      rw [show v = .str z from h]
      have e : (if z.length ≤ SL then some (z.length != 0) else none) = some b := e
      split at e
      · rename_i hz
        cases e
        refine ⟨le_SL hz, ?_⟩
        cases q : z.length with
        | zero => rfl
        | succ n =>
          show _ = ((((n + 1 : Nat) : Int)) != 0)
          have : ((((n + 1 : Nat) : Int)) != 0) = true := by
            rw [bne_iff_ne]
            omega
          rw [this]
          rfl
      · cases e
    | lst => exact rest e
    | tup => exact rest e
    | dct => exact rest e
    | kl => exact rest e
@[simp] def tOf (x : T) : M Bool := fun μ => match truth μ (rd μ x) with
  | some b => some (.ok b μ)
  | none => none
@[simp] def bT (f : EF) : TF := fun ρ => mbind (f ρ) tOf
/-- the reading of a value's truth -/
def tTru' (K : PySem.W.Frag) (ta : TE) : TT := fun σ H Q => ta σ H fun x H' => ∃ k, TruV K x H' k ∧ Q k H'
theorem pb_truth {a : Expr} {ta : TE} {fa : EF} (ha : PD K X E a ta fa) (hK : X.K = K := by rfl) (he : ∀ whole, isTrue a X.env whole = (do let v ← whole; standAt a.pos; holding [v] (truthy v)) := by intro _; rfl) : PB K X E a (tTru' K ta) (bT fa) := by
  subst hK
  refine ⟨pt_truth ha.pe he, fun w σ ρ ev => At.bind (R := RV X.K) rb_m (ha.ok w σ ρ ev) fun x v w1 _ _ hx => ?_⟩
  intro s r e Q k _
  unfold tOf at e
  split at e
  · rename_i b hb
    cases e
    exact ⟨b, truth_ok s (rd_ok s hx) hb, k b w1 b rfl (Ext.refl _) s rfl⟩
  · cases e

/-! ### and, or, not, if-else -/
@[simp] def bNot (f : TF) : TF := fun ρ => mbind (f ρ) fun b => mret (!b)
@[simp] def bAnd (f g : TF) : TF := fun ρ => mbind (f ρ) fun b => if b = true then g ρ else mret false
@[simp] def bOr (f g : TF) : TF := fun ρ => mbind (f ρ) fun b => if b = true then mret true else g ρ
theorem pb_not {a : Expr} {ta : TT} {fa : TF} {pos : Pos} (ha : PB K X E a ta fa) : PB K X E (.UnaryOp .Not a pos) (tNot ta) (bNot fa) := by
  refine ⟨pt_not ha.pe, fun w σ ρ ev => ?_⟩
  show At K E w (fun Q => ta σ w.H fun c H1 => Q (!c) H1) _ _
  exact (At.bind rb_m (ha.ok w σ ρ ev) fun b c w1 _ _ hb => by cases hb; exact At.ret (R := RB) rfl)
theorem bok_and {t u : TT} {f g : TF} (h1 : BOk K E t f) (h2 : BOk K E u g) : BOk K E (tAnd t u) (bAnd f g) := fun w σ ρ ev => by
  show At K E w (fun Q => t σ w.H fun c H1 => if c = true then u σ H1 Q else Q false H1) _ _
  refine At.bind rb_m (h1 w σ ρ ev) fun b c w1 e1 _ hb => ?_
  cases hb
  cases b with
  | true => exact h2 w1 σ ρ (ev.ext e1)
  | false => exact At.ret (R := RB) rfl
theorem bok_or {t u : TT} {f g : TF} (h1 : BOk K E t f) (h2 : BOk K E u g) : BOk K E (tOr t u) (bOr f g) := fun w σ ρ ev => by
  show At K E w (fun Q => t σ w.H fun c H1 => if c = true then Q true H1 else u σ H1 Q) _ _
  refine At.bind rb_m (h1 w σ ρ ev) fun b c w1 e1 _ hb => ?_
  cases hb
  cases b with
  | true => exact At.ret (R := RB) rfl
  | false => exact h2 w1 σ ρ (ev.ext e1)
section
variable {a b e : Expr} {rest : List Expr} {ta tb t : TT} {fa fb f : TF} {pos : Pos}
theorem pw1_and (ha : PB K X E a ta fa) : PWB K X E (.BoolOp .And [a] pos) ta fa := ⟨pw_and1 ha.pe, ha.ok⟩
theorem pw1_or (ha : PB K X E a ta fa) : PWB K X E (.BoolOp .Or [a] pos) ta fa := ⟨pw_or1 ha.pe, ha.ok⟩
theorem pwb_and (ha : PB K X E a ta fa) (hb : PWB K X E (.BoolOp .And (b :: rest) pos) tb fb) : PWB K X E (.BoolOp .And (a :: b :: rest) pos) (tAnd ta tb) (bAnd fa fb) := ⟨pw_and ha.pe hb.pe, bok_and ha.ok hb.ok⟩
theorem pwb_or (ha : PB K X E a ta fa) (hb : PWB K X E (.BoolOp .Or (b :: rest) pos) tb fb) : PWB K X E (.BoolOp .Or (a :: b :: rest) pos) (tOr ta tb) (bOr fa fb) := ⟨pw_or ha.pe hb.pe, bok_or ha.ok hb.ok⟩
theorem pb_bool (h : PWB K X E e t f) : PB K X E e t f := ⟨h.pe.pt, h.ok⟩
end
/-- and, or of truths as values; the last part any value -/
@[simp] def eAnd (fa fb : EF) : EF := fun ρ => mbind (bE fa ρ) fun b => if b = true then fb ρ else mret (.d (.bl false))
@[simp] def eOr (fa fb : EF) : EF := fun ρ => mbind (bE fa ρ) fun b => if b = true then mret (.d (.bl true)) else fb ρ
@[simp] def eNot (fa : EF) : EF := fun ρ => mbind (bE fa ρ) fun b => mret (.d (.bl (!b)))
theorem bok_E' {t : TE} {f : EF} (h : EOk K E t f) (w : Wd) (σ : St) (ρ : Rho) (ev : EnvOk K w σ ρ) {γ : Type} {R : RT T γ} {u : Bool → Hp → (γ → Hp → Prop) → Prop} {g : Bool → M T} (hm : ∀ w w1 w2 a b, Ext w w1 → R w1 w2 a b → R w w2 a b)
    (h2 : ∀ b w1, Ext w w1 → StOk K w1 → At K E w1 (u b w1.H) (g b) R) : At K E w (fun Q => t σ w.H fun x H1 => ∃ c, x = .bl c ∧ u c H1 Q) (mbind (bE f ρ) g) R := by
  have q := At.bind (u := u) (g := g) (R2 := R) hm (bok_E h w σ ρ ev) fun b c w1 e1 s1 hb => by
    cases hb
    exact h2 b w1 e1 s1
  exact q
section
variable {a b : Expr} {rest : List Expr} {ta tb : TE} {fa fb f : EF} {pos : Pos}
theorem pe1 {op} (h : PD K X E a ta f) : PD K X E (.BoolOp op [a] pos) ta f := ⟨pe_one h.pe, h.ok⟩
theorem pd_and (ha : PD K X E a ta fa) (hb : PD K X E (.BoolOp .And (b :: rest) pos) tb fb) : PD K X E (.BoolOp .And (a :: b :: rest) pos) (tAndV ta tb) (eAnd fa fb) := by
  refine ⟨pe_and ha.pe hb.pe, fun w σ ρ ev => bok_E' (R := RV K) (u := fun c H1 Q => if c = true then tb σ H1 Q else Q (.bl false) H1) ha.ok w σ ρ ev rv_m fun b w1 e1 s1 => ?_⟩
  cases b with
  | true => exact hb.ok w1 σ ρ (ev.ext e1)
  | false => exact At.ret (R := RV K) rfl
theorem pd_or (ha : PD K X E a ta fa) (hb : PD K X E (.BoolOp .Or (b :: rest) pos) tb fb) : PD K X E (.BoolOp .Or (a :: b :: rest) pos) (tOrV ta tb) (eOr fa fb) := by
  refine ⟨pe_or ha.pe hb.pe, fun w σ ρ ev => bok_E' (R := RV K) (u := fun c H1 Q => if c = true then Q (.bl true) H1 else tb σ H1 Q) ha.ok w σ ρ ev rv_m fun b w1 e1 s1 => ?_⟩
  cases b with
  | true => exact At.ret (R := RV K) rfl
  | false => exact hb.ok w1 σ ρ (ev.ext e1)
theorem pd_not (ha : PD K X E a ta fa) : PD K X E (.UnaryOp .Not a pos) (tNotV ta) (eNot fa) :=
  ⟨pe_not ha.pe, fun w σ ρ ev => bok_E' (R := RV K) (u := fun c H1 Q => Q (.bl (!c)) H1) ha.ok w σ ρ ev rv_m fun b w1 e1 s1 => At.ret (a := T.d (.bl (!b))) (b := V.bl (!b)) (R := RV K) rfl⟩
@[simp] def eIf (c : TF) (fa fb : EF) : EF := fun ρ => mbind (c ρ) fun b => if b = true then fa ρ else fb ρ
theorem pd_if {c : Expr} {tc : TT} {fc : TF} (hc : PB K X E c tc fc) (ha : PD K X E a ta fa) (hb : PD K X E b tb fb) : PD K X E (.IfExp c a b pos) (tIf tc ta tb) (eIf fc fa fb) := by
  refine ⟨pe_ifExp hc.pe ha.pe hb.pe, fun w σ ρ ev => ?_⟩
  show At K E w (fun Q => tc σ w.H fun c H1 => if c = true then ta σ H1 Q else tb σ H1 Q) _ _
  refine At.bind rv_m (hc.ok w σ ρ ev) fun k k' w1 e1 s1 hk => ?_
  cases hk
  cases k with
  | true => exact ha.ok w1 σ ρ (ev.ext e1)
  | false => exact hb.ok w1 σ ρ (ev.ext e1)
end

/-! ### arguments, displays -/
@[simp] def aNil : AF := fun _ => mret []
@[simp] def aCons (f : EF) (g : AF) : AF := fun ρ => mbind (f ρ) fun x => mbind (g ρ) fun xs => mret (x :: xs)
theorem pl_nil : PL K X E [] tNil aNil := ⟨pa_nil, fun w σ ρ _ => At.ret (R := RL K) .nil⟩
theorem pl_cons {e : Expr} {es : List Expr} {ta : TE} {tb : TA} {f : EF} {g : AF} (h : PD K X E e ta f) (hr : PL K X E es tb g) (hs : starEach (e :: es) X.env = (false, eval e X.env) :: starEach es X.env := by rfl) : PL K X E (e :: es) (tCons ta tb) (aCons f g) := by
  refine ⟨pa_cons h.pe hr.pe hs, fun w σ ρ ev => ?_⟩
  show At K E w (fun Q => ta σ w.H fun x H1 => tb σ H1 fun xs H2 => Q (x :: xs) H2) _ _
  exact At.bind rl_m (h.ok w σ ρ ev) fun x v w1 e1 s1 hx => At.bind rl_m (hr.ok w1 σ ρ (ev.ext e1)) fun xs vs w2 e2 s2 hxs => At.ret (a := x :: xs) (b := v :: vs) (R := RL K) (.cons (e2.t hx) hxs)
/-- a new tracked object -/
theorem new_ok {w : Wd} (s : StOk K w) {p : Addr} {o : HO} (hp : w.H p = none) : StOk K { w with H := upd w.H p o } ∧ Ext w { w with H := upd w.H p o } ∧ p ∉ w.A ∧ w.F p = none := by
  have hF : w.F p = none := s.fs hp
  have hne : ∀ (n : Nat) (b : Addr) (c : Cell), w.A[n]? = some b → w.μ[n]? = some c → c.live = true → b ≠ p := fun n b c h1 h2 h3 z => by
    obtain ⟨_, o, e⟩ := (s.cell n b c h1 h2).nn h3
    rw [z, hp] at e
    cases e
  have hA : p ∉ w.A := fun z => s.tr p z hp
  refine ⟨⟨fun b o' e => ?_, s.len, s.nd, fun b hb => ?_, fun n b c h1 h2 => ?_⟩, ⟨Same.refl _, List.prefix_refl _, fun b h => ?_, fun b o' h _ => ?_, fun b h _ _ => h, fun b h _ => h, fun b h _ => h⟩, hA, hF⟩
  · show upd w.H p o b = some o'
    rw [upd_ne (ne_of_none (s.sub b o' e) hp)]
    exact s.sub b o' e
  · show upd w.H p o b ≠ none
    rw [upd_ne (show b ≠ p from fun z => hA (by rw [← z]; exact hb))]
    exact s.tr b hb
  · refine (s.cell n b c h1 h2).rep (Same.refl _) (List.prefix_refl _) (fun l => ((s.cell n b c h1 h2).nn l).1) fun l => ?_
    show upd w.H p o b = w.H b
    exact upd_ne (hne n b c h1 h2 l)
  · have h : upd w.H p o b = none := h
    by_cases hb : b = p
    · rw [hb]; exact hp
    · rw [upd_ne hb] at h; exact h
  · show upd w.H p o b = some o'
    rw [upd_ne (ne_of_none h hp)]
    exact h
end
end Fm
set_option Elab.async false
set_option linter.all false
set_option maxRecDepth 100000
namespace Fm
open PySem L2 PySem.Spec PyProof.Rows
section
variable {X : Cx} {E : XK} {K : PySem.W.Frag}

/-! ### operators -/
/-! the readings -/
abbrev qAddI : R2 := rI0 fun i j => .int (i + j)
abbrev qSub : R2 := rI0 fun i j => .int (i - j)
abbrev qMul : R2 := rI CMul fun i j => .int (i * j)
abbrev qMod : R2 := rI (fun _ j => 0 < j) fun i j => .int (i % j)
abbrev qDiv : R2 := rI CDiv fun i j => .int (i / j)
abbrev qPow : R2 := rI CPow fun i j => .int (i ^ j.toNat)
abbrev qAddS : R2 := fun x y H Q => ∃ i j, x = .str i ∧ y = .str j ∧ i.length + j.length ≤ sizeLine ∧ Q (.str (i ++ j)) H
abbrev qOr (r q : R2) : R2 := fun x y H Q => r x y H Q ∨ q x y H Q
abbrev qLtI : R2 := rI0 fun i j => .bl (decide (i < j))
abbrev qGtI : R2 := rI0 fun i j => .bl (decide (j < i))
abbrev qLe : R2 := rI0 fun i j => .bl (decide (i ≤ j))
abbrev qGe : R2 := rI0 fun i j => .bl (decide (j ≤ i))
abbrev qLtS : R2 := fun x y H Q => ∃ i j, x = .str i ∧ y = .str j ∧ Q (.bl (decide (i.cps.toList < j.cps.toList))) H
abbrev qGtS : R2 := fun x y H Q => ∃ i j, x = .str i ∧ y = .str j ∧ Q (.bl (decide (j.cps.toList < i.cps.toList))) H
abbrev qIsN : R2 := fun x y H Q => y = .non ∧ Q (.bl (decide (x = .non))) H
abbrev qNotN : R2 := fun x y H Q => y = .non ∧ Q (.bl (!decide (x = .non))) H
abbrev qInS : R2 := fun x y H Q => ∃ (c : Nat) (z : Str), x = .str ⟨#[c]⟩ ∧ y = .str z ∧ Q (.bl (decide (c ∈ z.cps.toList))) H
abbrev qNotInS : R2 := fun x y H Q => ∃ (c : Nat) (z : Str), x = .str ⟨#[c]⟩ ∧ y = .str z ∧ Q (.bl (!decide (c ∈ z.cps.toList))) H
/-- ints in, data out -/
@[simp] def gI (h : Int → Int → D) : G2 := fun _ x y => match x, y with
  | .d (.int i), .d (.int j) => some (.d (h i j))
  | _, _ => none
@[simp] def gIc (c : Int → Int → Bool) (h : Int → Int → D) : G2 := fun _ x y => match x, y with
  | .d (.int i), .d (.int j) => if c i j = true then some (.d (h i j)) else none
  | _, _ => none
theorem opv_I {g : Int → Int → V} {h : Int → Int → D} (hr : ∀ F i j, Rep K F (h i j) (g i j)) : OpV K (rI0 g) (gI h) := fun w x y vx vy z s hx hy e => by
  unfold gI at e
  split at e
  · rename_i i j
    cases e
    exact ⟨g i j, hr w.F i j, fun Q q => ⟨i, j, hx, hy, q⟩⟩
  · cases e
theorem opv_Ic {C : Int → Int → Prop} {c : Int → Int → Bool} {g : Int → Int → V} {h : Int → Int → D} (hc : ∀ i j, c i j = true → C i j) (hr : ∀ F i j, Rep K F (h i j) (g i j)) : OpV K (rI C g) (gIc c h) := fun w x y vx vy z s hx hy e => by
  unfold gIc at e
  split at e
  · rename_i i j
    split at e
    · rename_i hcc
      cases e
      exact ⟨g i j, hr w.F i j, fun Q q => ⟨i, j, hx, hy, hc i j hcc, q⟩⟩
    · cases e
  · cases e
def cMul (i j : Int) : Bool := decide (-(2 ^ 64) < i ∧ i < 2 ^ 64) || decide (-(2 ^ 64) < j ∧ j < 2 ^ 64)
theorem od_addI : OpD K X (binaryOp .Add) qAddI (gI fun i j => .int (i + j)) := ⟨op_add, opv_I fun _ _ _ => rfl⟩
theorem od_sub : OpD K X (binaryOp .Sub) qSub (gI fun i j => .int (i - j)) := ⟨op_sub, opv_I fun _ _ _ => rfl⟩
theorem od_mul : OpD K X (binaryOp .Mult) qMul (gIc cMul fun i j => .int (i * j)) := ⟨op_mul, opv_Ic (fun i j h => by
  unfold cMul at h
  rw [Bool.or_eq_true, decide_eq_true_eq, decide_eq_true_eq] at h
  exact h) fun _ _ _ => rfl⟩
theorem od_mod : OpD K X (binaryOp .Mod) qMod (gIc (fun _ j => decide (0 < j)) fun i j => .int (i % j)) := ⟨op_mod, opv_Ic (fun i j h => of_decide_eq_true h) fun _ _ _ => rfl⟩
theorem od_fdiv : OpD K X (binaryOp .FloorDiv) qDiv (gIc (fun _ j => decide (0 < j ∧ j < 1073741824)) fun i j => .int (i / j)) := ⟨op_fdiv, opv_Ic (fun i j h => by have q := of_decide_eq_true h; exact q) fun _ _ _ => rfl⟩
theorem od_pow : OpD K X (binaryOp .Pow) qPow (gIc (fun i j => decide (0 ≤ j ∧ j ≤ 1000000 ∧ i.natAbs < 2 ^ 64)) fun i j => .int (i ^ j.toNat)) := ⟨op_pow, opv_Ic (fun i j h => by have q := of_decide_eq_true h; exact q) fun _ _ _ => rfl⟩
@[simp] def gSS (h : Str → Str → Option D) : G2 := fun _ x y => match x, y with
  | .d (.str i), .d (.str j) => (h i j).map T.d
  | _, _ => none
@[simp] def hCatS (i j : Str) : Option D := if i.length + j.length ≤ SL then some (.str (i ++ j)) else none
theorem od_addS : OpD K X (binaryOp .Add) qAddS (gSS hCatS) := ⟨op_add_str, fun w x y vx vy z s hx hy e => by
  unfold gSS at e
  split at e
  · rename_i i j
    unfold hCatS at e
    split at e
    · rename_i hl
      cases e
      exact ⟨.str (i ++ j), rfl, fun Q q => ⟨i, j, hx, hy, le_SL hl, q⟩⟩
    · cases e
  · cases e⟩
@[simp] def gAdd : G2 := fun μ x y => (g2or (gI fun i j => .int (i + j)) (gSS hCatS)) μ x y
theorem od_add : OpD K X (binaryOp .Add) (qOr qAddI qAddS) gAdd := od_addI.or od_addS
/-! comparisons -/
theorem opv_S {p : Str → Str → Bool} : OpV K (fun x y H Q => ∃ i j, x = .str i ∧ y = .str j ∧ Q (.bl (p i j)) H) (gSS fun i j => some (.bl (p i j))) := fun w x y vx vy z s hx hy e => by
  unfold gSS at e
  split at e
  · rename_i i j
    cases e
    exact ⟨.bl (p i j), rfl, fun Q q => ⟨i, j, hx, hy, q⟩⟩
  · cases e
def ltS (i j : Str) : Bool := decide (i.cps.toList < j.cps.toList)
@[simp] def gLt : G2 := fun μ x y => (g2or (gI fun i j => .bl (decide (i < j))) (gSS fun i j => some (.bl (ltS i j)))) μ x y
@[simp] def gGt : G2 := fun μ x y => (g2or (gI fun i j => .bl (decide (j < i))) (gSS fun i j => some (.bl (ltS j i)))) μ x y
@[simp] def gLe : G2 := fun μ x y => (gI fun i j => .bl (decide (i ≤ j))) μ x y
@[simp] def gGe : G2 := fun μ x y => (gI fun i j => .bl (decide (j ≤ i))) μ x y
theorem od_lt : OpD K X (compareOp .Lt) (qOr qLtI qLtS) gLt := OpD.or ⟨op_lt, opv_I fun _ _ _ => rfl⟩ ⟨op_lt_str, opv_S⟩
theorem od_gt : OpD K X (compareOp .Gt) (qOr qGtI qGtS) gGt := OpD.or ⟨op_gt, opv_I fun _ _ _ => rfl⟩ ⟨op_gt_str, fun w x y vx vy z s hx hy e => by
  unfold gSS at e
  split at e
  · rename_i i j
    cases e
    exact ⟨.bl (ltS j i), rfl, fun Q q => ⟨i, j, hx, hy, q⟩⟩
  · cases e⟩
theorem od_le : OpD K X (compareOp .LtE) qLe gLe := ⟨op_le, opv_I fun _ _ _ => rfl⟩
theorem od_ge : OpD K X (compareOp .GtE) qGe gGe := ⟨op_ge, opv_I fun _ _ _ => rfl⟩
/-- == of flat things: what they are as values -/
@[simp] def flat : T → Option V
  | .d .non => some .non
  | .d (.bl b) => some (.bl b)
  | .d (.int i) => some (.int i)
  | .d (.str s) => some (.str s)
  | _ => none
theorem flat_ok {w : Wd} {x : T} {v u : V} (h : w.t K x v) (e : flat x = some u) : v = u := by
  unfold flat at e
  split at e
  · cases e; exact h
  · cases e; exact h
  · cases e; exact h
  · cases e; exact h
  · cases e
@[simp] def gEqF (n : Bool) : G2 := fun _ x y => match flat x, flat y with
  | some u, some v => if scal u v = true then some (.d (.bl (if n then !decide (u = v) else decide (u = v)))) else none
  | _, _ => none
theorem opv_eqF : OpV K rEq (gEqF false) := fun w x y vx vy z s hx hy e => by
  unfold gEqF at e
  split at e
  · rename_i u v h1 h2
    cases flat_ok hx h1
    cases flat_ok hy h2
    split at e
    · rename_i hs
      cases e
      exact ⟨_, rfl, fun Q q => ⟨hs, q⟩⟩
    · cases e
  · cases e
theorem opv_neF : OpV K rNe (gEqF true) := fun w x y vx vy z s hx hy e => by
  unfold gEqF at e
  split at e
  · rename_i u v h1 h2
    cases flat_ok hx h1
    cases flat_ok hy h2
    split at e
    · rename_i hs
      cases e
      exact ⟨_, rfl, fun Q q => ⟨hs, q⟩⟩
    · cases e
  · cases e
theorem od_eqF : OpD K X (compareOp .Eq) rEq (gEqF false) := ⟨op_eq, opv_eqF⟩
theorem od_neF : OpD K X (compareOp .NotEq) rNe (gEqF true) := ⟨op_ne, opv_neF⟩
/-- is: None on the right, or two truths -/
theorem rep_non {w : Wd} {x : T} {v : V} (h : w.t K x v) : v = .non ↔ x = .d .non := by
  cases x with
  | p n => obtain ⟨a, _, e⟩ := h; rw [e]; simp
  | d d => cases d with
    | non => exact ⟨fun _ => rfl, fun _ => h⟩
    | bl => rw [show v = _ from h]; simp
    | int => rw [show v = _ from h]; simp
    | str => rw [show v = _ from h]; simp
    | lst => obtain ⟨a, _, e, _⟩ := h; rw [e]; simp
    | tup => obtain ⟨a, _, e, _⟩ := h; rw [e]; simp
    | dct => obtain ⟨a, _, e, _⟩ := h; rw [e]; simp
    | kl => obtain ⟨a, e, _⟩ := h; rw [e]; simp
@[simp] def isNon : T → Bool
  | .d .non => true
  | _ => false
theorem isNon_iff {x : T} : isNon x = true ↔ x = .d .non := by
  unfold isNon
  split
  · simp
  · rename_i h
    exact ⟨fun z => Bool.noConfusion z, fun z => absurd z h⟩
@[simp] def gIsN (n : Bool) : G2 := fun _ x y => match y with
  | .d .non => some (.d (.bl (if n then !isNon x else isNon x)))
  | _ => none
@[simp] def gIsB (n : Bool) : G2 := fun _ x y => match x, y with
  | .d (.bl a), .d (.bl b) => some (.d (.bl (if n then !decide (a = b) else decide (a = b))))
  | _, _ => none
theorem isN_val {w : Wd} {x : T} {v : V} (h : w.t K x v) : isNon x = decide (v = .non) := by
  rw [Bool.eq_iff_iff, isNon_iff, decide_eq_true_eq]
  exact (rep_non h).symm
theorem od_is : OpD K X (compareOp .Is) (qOr qIsN rIsB) (g2or (gIsN false) (gIsB false)) := OpD.or ⟨op_isN, fun w x y vx vy z s hx hy e => by
    unfold gIsN at e
    split at e
    · have q := isN_val hx
      cases e
      refine ⟨_, rfl, fun Q k => ⟨hy, ?_⟩⟩
      rw [q] at k
      exact k
    · cases e⟩
  ⟨op_isBl, fun w x y vx vy z s hx hy e => by
    unfold gIsB at e
    split at e
    · rename_i a b
      cases e
      exact ⟨_, rfl, fun Q k => ⟨a, b, hx, hy, k⟩⟩
    · cases e⟩
theorem od_isNot : OpD K X (compareOp .IsNot) (qOr qNotN rNotB) (g2or (gIsN true) (gIsB true)) := OpD.or ⟨op_notN, fun w x y vx vy z s hx hy e => by
    unfold gIsN at e
    split at e
    · have q := isN_val hx
      cases e
      refine ⟨_, rfl, fun Q k => ⟨hy, ?_⟩⟩
      rw [q] at k
      exact k
    · cases e⟩
  ⟨op_notBl, fun w x y vx vy z s hx hy e => by
    unfold gIsB at e
    split at e
    · rename_i a b
      cases e
      exact ⟨_, rfl, fun Q k => ⟨a, b, hx, hy, k⟩⟩
    · cases e⟩
/-- one sign in a text; a flat thing in a list; a key in a dict -/
def sgn (s : Str) : Option Nat := match s.cps.toList with
  | [c] => some c
  | _ => none
theorem sgn_ok {s : Str} {c : Nat} (h : sgn s = some c) : s = ⟨#[c]⟩ := by
  unfold sgn at h
  split at h
  · rename_i c' e
    cases h
    cases s with
    | mk cps =>
      have : cps = #[c] := by
        rw [← Array.toList_inj]
        exact e
      rw [this]
  · cases h
def inS (i j : Str) : Option Bool := (sgn i).map fun c => decide (c ∈ j.cps.toList)
def gInS (n : Bool) : G2 := gSS fun i j => (inS i j).map fun b => .bl (if n then !b else b)
theorem od_inS : OpD K X (compareOp .In) qInS (gInS false) := ⟨op_in_sign, fun w x y vx vy z s hx hy e => by
  unfold gInS gSS at e
  split at e
  · rename_i i j
    have e : Option.map T.d ((inS i j).map fun b => D.bl (if false = true then !b else b)) = some z := e
    unfold inS at e
    cases hs : sgn i with
    | none => rw [hs] at e; cases e
    | some c =>
      rw [hs] at e
      cases e
      refine ⟨_, rfl, fun Q q => ⟨c, j, ?_, hy, q⟩⟩
      rw [show vx = .str i from hx, sgn_ok hs]
  · cases e⟩
theorem od_notInS : OpD K X (compareOp .NotIn) qNotInS (gInS true) := ⟨op_notIn_sign, fun w x y vx vy z s hx hy e => by
  unfold gInS gSS at e
  split at e
  · rename_i i j
    have e : Option.map T.d ((inS i j).map fun b => D.bl (if true = true then !b else b)) = some z := e
    unfold inS at e
    cases hs : sgn i with
    | none => rw [hs] at e; cases e
    | some c =>
      rw [hs] at e
      cases e
      refine ⟨_, rfl, fun Q q => ⟨c, j, ?_, hy, q⟩⟩
      rw [show vx = .str i from hx, sgn_ok hs]
  · cases e⟩

/-! ### subscripts -/
/-- a key by its value -/
def keyOf : T → Option Key
  | .d (.int i) => some (.inl i)
  | .d (.str s) => some (.inr s)
  | _ => none
theorem keyOf_ok {w : Wd} {x : T} {v : V} {k : Key} (h : w.t K x v) (e : keyOf x = some k) : v = kV k := by
  unfold keyOf at e
  split at e
  · cases e; exact h
  · cases e; exact h
  · cases e
def valT (kvs : List (Key × T)) (k : Key) : Option T := (kvs.find? fun kv => decide (kv.1 = k)).map (·.2)
theorem valT_ok {R : T → V → Prop} : ∀ {xs : List (Key × T)} {vs : List (Key × V)} {k : Key}, Paired (fun p q => p.1 = q.1 ∧ R p.2 q.2) xs vs → match valT xs k with
    | some x => ∃ v, valV vs k = some v ∧ R x v
    | none => valV vs k = none
  | [], _, _, .nil => rfl
  | (a, x) :: xs, (b, v) :: vs, k, .cons h t => by
    obtain ⟨e, r⟩ := h
    cases e
    by_cases ek : a = k
    · have h1 : valT ((a, x) :: xs) k = some x := by simp [valT, List.find?_cons, ek]
      rw [h1]
      exact ⟨v, valV_pos ek, r⟩
    · have h1 : valT ((a, x) :: xs) k = valT xs k := by simp [valT, List.find?_cons, ek]
      rw [h1, valV_neg ek]
      exact valT_ok t
def ixT {α : Type} (xs : List α) (y : T) : Option α := match y with
  | .d (.int i) => atI xs i
  | _ => none
def gIx2 : G2 := fun μ x y => match lstOf μ x with
  | some xs => (ixT xs y).map (rd μ)
  | none => match tupOf x with
    | some xs => (ixT xs y).map T.d
    | none => match dctOf μ x with
      | some kvs => match keyOf y with
        | some k => (valT kvs k).map (rd μ)
        | none => none
      | none => none
def gIx : G2 := fun μ x y => match x with
  | .d (.str z) => if z.length ≤ SL then (ixT z.cps.toList y).map fun c => .d (.str ⟨#[c]⟩) else none
  | x => gIx2 μ x y
/-- a dict's item -/
def rIxD : R2 := fun x y H Q => ∃ a v, x = .ref a ∧ DGet H a y (some v) ∧ Q v H
theorem ix_dict (hu : X.A.units + 1 < cLine) : IxR X rIxD := by
  intro value slice pins s σ H x y v u Q I rx ry q hs
  obtain ⟨a, v0, rfl, hd, q⟩ := q
  cases (show v = Value.ref a from rx)
  exact tail_any (dict_typeIs I hd) PySem.F.slot_dict_getitem.lookup (d_getItem hu I hd ry fun w' s' I' r' => ⟨v0, H, I', r', q⟩) hs
end
end Fm
set_option Elab.async false
set_option linter.all false
set_option maxRecDepth 100000
namespace Fm
open PySem L2 PySem.Spec PyProof.Rows

/-! ### the order of texts, and sorting them -/
theorem ltc_irr : ∀ a : List Nat, ltCps a a = false
  | [] => rfl
  | x :: r => by simp [ltCps, ltc_irr r]
theorem ltc_trans : ∀ {a b c : List Nat}, ltCps a b = true → ltCps b c = true → ltCps a c = true
  | [], [], _, h, _ => by cases h
  | [], _ :: _, [], _, h => by cases h
  | [], _ :: _, _ :: _, _, _ => rfl
  | _ :: _, [], _, h, _ => by cases h
  | _ :: _, _ :: _, [], _, h => by cases h
  | x :: a, y :: b, z :: c, h1, h2 => by
    simp only [ltCps, Bool.or_eq_true, decide_eq_true_eq, Bool.and_eq_true, beq_iff_eq] at h1 h2 ⊢
    rcases h1 with h1 | ⟨e1, h1⟩ <;> rcases h2 with h2 | ⟨e2, h2⟩
    · left; omega
    · left; omega
    · left; omega
    · right; exact ⟨by omega, ltc_trans h1 h2⟩
theorem ltc_tri : ∀ a b : List Nat, ltCps a b = true ∨ a = b ∨ ltCps b a = true
  | [], [] => .inr (.inl rfl)
  | [], _ :: _ => .inl rfl
  | _ :: _, [] => .inr (.inr rfl)
  | x :: a, y :: b => by
    simp only [ltCps, Bool.or_eq_true, decide_eq_true_eq, Bool.and_eq_true, beq_iff_eq]
    rcases Nat.lt_trichotomy x y with h | h | h
    · exact .inl (.inl h)
    · subst h
      rcases ltc_tri a b with q | q | q
      · exact .inl (.inr ⟨rfl, q⟩)
      · exact .inr (.inl (by rw [q]))
      · exact .inr (.inr (.inr ⟨rfl, q⟩))
    · exact .inr (.inr (.inl h))
theorem ltc_asym {a b : List Nat} (h : ltCps a b = true) : ltCps b a = false := by
  cases q : ltCps b a with
  | false => rfl
  | true => rw [ltc_irr a |>.symm.trans (by rw [ltc_trans h q])]
theorem ltc_lt : ∀ a b : List Nat, decide (a < b) = ltCps a b
  | [], [] => rfl
  | [], _ :: _ => by simp [ltCps]
  | _ :: _, [] => by simp [ltCps]
  | x :: a, y :: b => by
    rw [Bool.eq_iff_iff, decide_eq_true_eq]
    simp only [ltCps, Bool.or_eq_true, decide_eq_true_eq, Bool.and_eq_true, beq_iff_eq, List.cons_lt_cons_iff]
    have q := ltc_lt a b
    rw [Bool.eq_iff_iff, decide_eq_true_eq] at q
    rw [q]
theorem str_ext {a b : Str} (h : a.cps.toList = b.cps.toList) : a = b := by
  cases a; cases b
  congr
  exact Array.toList_inj.mp h
def sLt (a b : Str) : Bool := ltCps a.cps.toList b.cps.toList
theorem ltS_eq (a b : Str) : ltS a b = sLt a b := ltc_lt _ _
def insS (x : Str) : List Str → List Str
  | [] => [x]
  | y :: r => if sLt y x = true then y :: insS x r else x :: y :: r
def sortS : List Str → List Str
  | [] => []
  | x :: r => insS x (sortS r)
def SrtS : List Str → Prop := List.Pairwise fun a b => sLt b a = false
theorem insS_perm (x : Str) : ∀ l, (insS x l).Perm (x :: l)
  | [] => .refl _
  | y :: r => by
    unfold insS
    split
    · exact ((insS_perm x r).cons y).trans (.swap x y r)
    · exact .refl _
theorem sortS_perm : ∀ l, (sortS l).Perm l
  | [] => .refl _
  | x :: r => (insS_perm x (sortS r)).trans ((sortS_perm r).cons x)
theorem insS_srt (x : Str) : ∀ {l}, SrtS l → SrtS (insS x l)
  | [], _ => List.pairwise_singleton _ _
  | y :: r, h => by
    obtain ⟨h1, h2⟩ := List.pairwise_cons.mp h
    unfold insS
    split
    · rename_i c
      refine List.pairwise_cons.mpr ⟨fun z hz => ?_, insS_srt x h2⟩
      rcases List.mem_cons.mp ((insS_perm x r).mem_iff.mp hz) with e | e
      · rw [e]; exact ltc_asym c
      · exact h1 z e
    · rename_i c
      have c : sLt y x = false := by
        cases q : sLt y x with
        | false => rfl
        | true => exact absurd q c
      refine List.pairwise_cons.mpr ⟨fun z hz => ?_, h⟩
      rcases List.mem_cons.mp hz with e | e
      · rw [e]; exact c
      · cases q : sLt z x with
        | false => rfl
        | true =>
          rcases ltc_tri y.cps.toList x.cps.toList with k | k | k
          · exact absurd k (by rw [show ltCps y.cps.toList x.cps.toList = false from c]; simp)
          · have z1 := h1 z e
            rw [str_ext k] at z1
            exact absurd q (by rw [z1]; simp)
          · exact absurd (ltc_trans q k) (by rw [show ltCps z.cps.toList y.cps.toList = false from h1 z e]; simp)
theorem sortS_srt : ∀ l, SrtS (sortS l)
  | [] => .nil
  | x :: r => insS_srt x (sortS_srt r)
theorem srt_uniq : ∀ {l m : List Str}, SrtS l → SrtS m → l.Perm m → l = m
  | [], m, _, _, p => by rw [List.nil_perm.mp p]
  | x :: l, [], _, _, p => absurd p.symm (by simp)
  | x :: l, y :: m, h1, h2, p => by
    obtain ⟨a1, a2⟩ := List.pairwise_cons.mp h1
    obtain ⟨b1, b2⟩ := List.pairwise_cons.mp h2
    have e : x = y := by
      have hx : x ∈ y :: m := p.mem_iff.mp List.mem_cons_self
      have hy : y ∈ x :: l := p.mem_iff.mpr List.mem_cons_self
      rcases List.mem_cons.mp hx with e | hx
      · exact e
      rcases List.mem_cons.mp hy with e | hy
      · exact e.symm
      rcases ltc_tri x.cps.toList y.cps.toList with k | k | k
      · exact absurd k (by rw [show ltCps x.cps.toList y.cps.toList = false from b1 x hx]; simp)
      · exact str_ext k
      · exact absurd k (by rw [show ltCps y.cps.toList x.cps.toList = false from a1 y hy]; simp)
    subst e
    rw [srt_uniq a2 b2 (List.Perm.cons_inv p)]
theorem rising_srt : ∀ {x : Str} {l : List Str}, risingS x l = true → SrtS (x :: l)
  | x, [], _ => List.pairwise_singleton _ _
  | x, y :: r, h => by
    have h : (!ltCps y.cps.toList x.cps.toList && risingS y r) = true := h
    rw [Bool.and_eq_true, Bool.not_eq_true'] at h
    have q := rising_srt h.2
    refine List.pairwise_cons.mpr ⟨fun z hz => ?_, q⟩
    rcases List.mem_cons.mp hz with e | e
    · rw [e]; exact h.1
    · have k := (List.pairwise_cons.mp q).1 z e
      cases c : sLt z x with
      | false => rfl
      | true =>
        rcases ltc_tri x.cps.toList y.cps.toList with t | t | t
        · exact absurd (ltc_trans c t) (by rw [show ltCps z.cps.toList y.cps.toList = false from k]; simp)
        · rw [← str_ext t] at k
          exact absurd c (by rw [k]; simp)
        · exact absurd t (by rw [h.1]; simp)
theorem sortedS_srt : ∀ {l : List Str}, sortedS l = true → SrtS l
  | [], _ => .nil
  | _ :: _, h => rising_srt h
theorem sorted_is {ys xs : List Str} (p : ys.Perm xs) (h : sortedS ys = true) : ys = sortS xs := srt_uniq (sortedS_srt h) (sortS_srt xs) (p.trans (sortS_perm xs).symm)

section
variable {X : Cx} {E : XK} {K : PySem.W.Frag}
/-! ### o[i] -/
theorem ixN_lt {n : Nat} {i : Int} {j : Nat} (h : ixN n i = some j) : j < n := (ixN_seq h).2.1
theorem atI_pd {α β : Type} {R : α → β → Prop} {xs : List α} {ys : List β} {i : Int} {a : α} (h : Paired R xs ys) (e : atI xs i = some a) : ∃ b, atI ys i = some b ∧ R a b := by
  unfold atI at e
  obtain ⟨j, h1, h2⟩ := Option.bind_eq_some_iff.mp e
  obtain ⟨b, h3, h4⟩ := pd_get h h2
  exact ⟨b, by unfold atI; rw [← pd_len h, h1]; exact h3, h4⟩
theorem ixT_some {α : Type} {xs : List α} {y : T} {a : α} (h : ixT xs y = some a) : ∃ i, y = .d (.int i) ∧ atI xs i = some a := by
  unfold ixT at h
  split at h
  · exact ⟨_, rfl, h⟩
  · cases h
theorem ix2_ok {w : Wd} {x y : T} {vx vy : V} {z : T} (s : StOk K w) (hx : w.t K x vx) (hy : w.t K y vy) (e : gIx2 w.μ x y = some z) : ∃ v, w.t K z v ∧ ∀ Q : VK, Q v w.H → rIx K vx vy w.H Q ∨ rIxD vx vy w.H Q := by
  unfold gIx2 at e
  split at e
  · rename_i xs hl
    obtain ⟨a, vs, h1, h2, h3⟩ := lst_ok s hx hl
    obtain ⟨u, h4, h5⟩ := Option.map_eq_some_iff.mp e
    obtain ⟨i, ey, h4b⟩ := ixT_some h4
    subst ey
    obtain ⟨v, h6, h7⟩ := atI_pd h3 h4b
    rw [← h5]
    exact ⟨v, rd_ok s h7, fun Q q => .inl (.inl ⟨a, vs, i, v, h1, hy, h2, h6, q⟩)⟩
  · split at e
    · rename_i xs hl
      obtain ⟨a, vs, h1, h2, h3⟩ := tup_ok s hx hl
      obtain ⟨u, h4, h5⟩ := Option.map_eq_some_iff.mp e
      obtain ⟨i, ey, h4b⟩ := ixT_some h4
      subst ey
      have h4' : atI (xs.map T.d) i = some (.d u) := by
        unfold atI at h4b ⊢
        obtain ⟨j, q1, q2⟩ := Option.bind_eq_some_iff.mp h4b
        rw [List.length_map, q1]
        show (xs.map T.d)[j]? = _
        rw [List.getElem?_map, q2] <;> rfl
      obtain ⟨v, h6, h7⟩ := atI_pd h3 h4'
      rw [← h5]
      exact ⟨v, h7, fun Q q => .inl (.inr (.inl ⟨a, vs, i, v, h1, hy, .of h2, h6, q⟩))⟩
    · split at e
      · rename_i kvs hd
        obtain ⟨a, vs, h1, h2, h3⟩ := dct_ok s hx hd
        split at e
        · rename_i k hk
          obtain ⟨u, h4, h5⟩ := Option.map_eq_some_iff.mp e
          have q := valT_ok (k := k) h3
          rw [h4] at q
          obtain ⟨v, h6, h7⟩ := q
          rw [← h5]
          refine ⟨v, rd_ok s h7, fun Q q => .inr ⟨a, v, h1, ?_, q⟩⟩
          rw [keyOf_ok hy hk, ← h6]
          exact DGet.k h2
        · cases e
      · cases e
theorem opv_ix : OpV K (fun x y H Q => rIx K x y H Q ∨ rIxD x y H Q) gIx := fun w x y vx vy z s hx hy e => by
  unfold gIx at e
  split at e
  · rename_i zz
    split at e
    · rename_i hz
      obtain ⟨c, h1, h2⟩ := Option.map_eq_some_iff.mp e
      obtain ⟨i, rfl, h1⟩ := ixT_some h1
      rw [← h2]
      exact ⟨.str ⟨#[c]⟩, rfl, fun Q q => .inl (.inr (.inr ⟨zz, i, c, hx, hy, le_SL hz, h1, q⟩))⟩
    · cases e
  · exact ix2_ok s hx hy e
theorem pd_ix {a b : Expr} {ta tb : TE} {fa fb : EF} {pos : Pos} (hu : X.A.units + 1 < cLine) (ha : PD K X E a ta fa) (hb : PD K X E b tb fb) (hK : X.K = K := by rfl) (hs : PlainIx b := by exact fun _ _ => rfl) : PD K X E (.Subscript a b pos) (tOp (fun x y H Q => rIx K x y H Q ∨ rIxD x y H Q) ta tb) (eOp gIx fa fb) := by
  subst hK
  exact ⟨pe_ix (ix_seq.or (ix_dict hu)) ha.pe hb.pe hs, eok_op opv_ix ha.ok hb.ok⟩

/-! ### slices -/
abbrev OF := Rho → M (Option Int)
def RO : RT (Option Int) (Option Int) := fun _ _ a b => a = b
def OOk (K : PySem.W.Frag) (E : XK) (t : TO) (f : OF) : Prop := ∀ w σ ρ, EnvOk K w σ ρ → At K E w (t σ w.H) (f ρ) RO
structure PO' (K : PySem.W.Frag) (X : Cx) (E : XK) (e : Option Expr) (t : TO) (f : OF) : Prop where
  pe : PO X e t
  ok : OOk K E t f
def oNone : OF := fun _ => mret none
def iOf (x : T) : M (Option Int) := fun μ => match rd μ x with
  | .d (.int i) => some (.ok (some i) μ)
  | _ => none
def oSome (f : EF) : OF := fun ρ => mbind (f ρ) iOf
theorem po_n : PO' K X E none tNoPart oNone := ⟨po_none, fun w σ ρ _ => At.ret (R := RO) rfl⟩
theorem po_s {e : Expr} {t : TE} {f : EF} (h : PD K X E e t f) : PO' K X E (some e) (tPart t) (oSome f) := by
  refine ⟨po_some h.pe, fun w σ ρ ev => ?_⟩
  show At K E w (fun Q => t σ w.H fun x H1 => ∃ i, x = .int i ∧ Q (some i) H1) _ _
  refine At.bind (fun _ _ _ _ _ _ h => h) (h.ok w σ ρ ev) fun x v w1 e1 s1 hx => ?_
  intro s r e Q k _
  unfold iOf at e
  have hx := rd_ok s hx
  split at e
  · rename_i i hi
    cases e
    rw [hi] at hx
    exact ⟨i, hx, k _ w1 _ rfl (Ext.refl _) s rfl⟩
  · cases e
def cutL {α : Type} (xs : List α) (lo hi : Option Int) : List α := (xs.drop (HT.sIx xs.length 0 lo)).take (HT.sIx xs.length xs.length hi - HT.sIx xs.length 0 lo)
/-- a slice of a text -/
def slS (x : T) (l u : Option Int) : M T := fun μ => match rd μ x with
  | .d (.str z) => if z.length ≤ SL then some (.ok (.d (.str (cutS z l u))) μ) else none
  | _ => none
def eSlS (f : EF) (l u : OF) : EF := fun ρ => mbind (f ρ) fun x => mbind (l ρ) fun lo => mbind (u ρ) fun hi => slS x lo hi
theorem pd_slS {e : Expr} {lo hi : Option Expr} {te : TE} {tl tu : TO} {f : EF} {l u : OF} {p2 pos : Pos} (h : PD K X E e te f) (hl : PO' K X E lo tl l) (hu : PO' K X E hi tu u) : PD K X E (.Subscript e (.Slice lo hi none p2) pos) (tSl rSlS te tl tu) (eSlS f l u) := by
  obtain ⟨a1, a2⟩ := h
  obtain ⟨b1, b2⟩ := hl
  obtain ⟨c1, c2⟩ := hu
  refine ⟨pe_slice sl_str a1 b1 c1, fun w σ ρ ev => ?_⟩
  show At K E w (fun Q => te σ w.H fun x H1 => tl σ H1 fun a H2 => tu σ H2 fun b H3 => rSlS x a b H3 Q) _ _
  refine At.bind rv_m (a2 w σ ρ ev) fun x v w1 e1 s1 hx => At.bind rv_m (b2 w1 σ ρ (ev.ext e1)) fun a a' w2 e2 s2 ha => At.bind rv_m (c2 w2 σ ρ ((ev.ext e1).ext e2)) fun b b' w3 e3 s3 hb => ?_
  cases ha
  cases hb
  intro s r e Q k _
  unfold slS at e
  have hx := rd_ok s (e3.t (e2.t hx))
  split at e
  · rename_i z hz
    rw [hz] at hx
    split at e
    · rename_i hzz
      cases e
      exact ⟨z, hx, le_SL hzz, k _ w3 (.str (cutS z a b)) rfl (Ext.refl _) s rfl⟩
    · cases e
  · cases e
/-- what a heap object is to a cell -/
def CellO (K : PySem.W.Frag) (w : Wd) : Cell → HO → Prop
  | .lst xs, .lst vs => Paired (w.t K) xs vs
  | .dct xs, .dK vs => Paired (fun p q => p.1 = q.1 ∧ w.t K p.2 q.2) xs vs
  | _, _ => False
theorem CellO.live {w : Wd} {c : Cell} {o : HO} (h : CellO K w c o) : c.live = true := by
  cases c with
  | frz => cases o <;> cases h
  | _ => rfl
/-- a new object at p is a new cell's content -/
theorem new_rc {w : Wd} (s : StOk K w) {c : Cell} {o : HO} {p : Addr} (h : CellO K w c o) (hp : w.H p = none) : RC K w { w with H := upd w.H p o } c (.ref p) := by
  obtain ⟨h1, h2, h3, h4⟩ := new_ok s (o := o) hp
  refine ⟨p, rfl, hp, h3, h.live, ?_⟩
  have hu : upd w.H p o p = some o := upd_same
  cases c with
  | lst xs =>
    cases o with
    | lst vs => exact ⟨h4, vs, hu, h⟩
    | _ => cases h
  | dct xs =>
    cases o with
    | dK vs => exact ⟨h4, vs, hu, h⟩
    | _ => cases h
  | obj => cases o <;> cases h
  | frz => cases o <;> cases h
theorem at_new {w : Wd} {t : VK → Prop} {o : Option Cell} (h : StOk K w → ∀ c, o = some c → ∃ ob, CellO K w c ob ∧ ∀ Q : VK, (∀ p, w.H p = none → Q (.ref p) (upd w.H p ob)) → t Q) : At K E w t (mof o) (RC K) := fun s r e Q q _ => by
  unfold mof at e
  cases o with
  | none => cases e
  | some c =>
    cases e
    obtain ⟨ob, h1, h2⟩ := h s c rfl
    refine h2 Q fun p hp => ?_
    obtain ⟨n1, n2, n3, n4⟩ := new_ok s (o := ob) hp
    exact q c { w with H := upd w.H p ob } (.ref p) rfl n2 n1 (new_rc s h1 hp)
/-- a slice of a list -/
def slL (x : T) (l u : Option Int) : M Cell := fun μ => (mof ((lstOf μ (rd μ x)).map fun xs => Cell.lst (cutL xs l u))) μ
def cSlL (f : EF) (l u : OF) : CF := fun ρ => mbind (f ρ) fun x => mbind (l ρ) fun lo => mbind (u ρ) fun hi => slL x lo hi
theorem pc_slL {e : Expr} {lo hi : Option Expr} {te : TE} {tl tu : TO} {f : EF} {l u : OF} {p2 pos : Pos} (h : PD K X E e te f) (hl : PO' K X E lo tl l) (hu : PO' K X E hi tu u) (hK : X.K = K := by rfl) : PCr K X E (.Subscript e (.Slice lo hi none p2) pos) (tSl (rSlL K) te tl tu) (cSlL f l u) := by
  subst hK
  obtain ⟨a1, a2⟩ := h
  obtain ⟨b1, b2⟩ := hl
  obtain ⟨c1, c2⟩ := hu
  refine ⟨pe_slice sl_list a1 b1 c1, fun w σ ρ ev => ?_⟩
  show At X.K E w (fun Q => te σ w.H fun x H1 => tl σ H1 fun a H2 => tu σ H2 fun b H3 => rSlL X.K x a b H3 Q) _ _
  refine At.bind rc_m (a2 w σ ρ ev) fun x v w1 e1 s1 hx => At.bind rc_m (b2 w1 σ ρ (ev.ext e1)) fun a a' w2 e2 s2 ha => At.bind rc_m (c2 w2 σ ρ ((ev.ext e1).ext e2)) fun b b' w3 e3 s3 hb => ?_
  cases ha
  cases hb
  refine at_new (o := (lstOf w3.μ (rd w3.μ x)).map fun xs => Cell.lst (cutL xs a b)) fun s c hc => ?_
  obtain ⟨xs, h1, h2⟩ := Option.map_eq_some_iff.mp hc
  obtain ⟨p, vs, h3, h4, h5⟩ := lst_ok s (rd_ok s (e3.t (e2.t hx))) h1
  rw [← h2]
  refine ⟨.lst (cutV vs a b), ?_, fun Q q => ⟨p, vs, h3, h4, q⟩⟩
  show Paired _ (cutL xs a b) (cutV vs a b)
  unfold cutL cutV
  rw [pd_len h5]
  exact pd_take _ (pd_drop _ h5)
end
end Fm
set_option Elab.async false
set_option linter.all false
set_option maxRecDepth 100000
namespace Fm
open PySem L2 PySem.Spec PyProof.Rows
section
variable {X : Cx} {E : XK} {K : PySem.W.Frag}

/-! ### displays -/
def cLst (f : AF) : CF := fun ρ => mbind (f ρ) fun xs => mof (if xs.length ≤ SL then some (.lst xs) else none)
theorem pc_lst {es : List Expr} {t : TA} {f : AF} {pos : Pos} (h : PL K X E es t f) : PCr K X E (.List es pos) (tLst t) (cLst f) := by
  refine ⟨pe_lst h.pe, fun w σ ρ ev => ?_⟩
  show At K E w (fun Q => t σ w.H fun xs H1 => xs.length ≤ sizeLine ∧ ∀ p, H1 p = none → Q (V.ref p) (upd H1 p (.lst xs))) _ _
  refine At.bind rc_m (h.ok w σ ρ ev) fun xs vs w1 e1 s1 hx => ?_
  have q := at_new (E := E) (w := w1) (t := fun Q => vs.length ≤ sizeLine ∧ ∀ p, w1.H p = none → Q (.ref p) (upd w1.H p (.lst vs))) (o := if xs.length ≤ SL then some (Cell.lst xs) else none) (K := K) fun s c hc => by
    split at hc
    · rename_i hl
      cases hc
      exact ⟨.lst vs, hx, fun Q q => ⟨by rw [← pd_len hx]; exact le_SL hl, q⟩⟩
    · cases hc
  exact q
def cDct0 : CF := fun _ => mret (.dct [])
theorem pc_dct0 {pos : Pos} : PCr K X E (.Dict [] [] pos) tDNewK cDct0 := by
  refine ⟨pe_dnewK, fun w σ ρ ev => ?_⟩
  have q := at_new (E := E) (w := w) (t := fun Q => ∀ p, w.H p = none → Q (.ref p) (upd w.H p (.dK []))) (o := some (Cell.dct [])) (K := K) fun s c hc => by
    cases hc
    exact ⟨.dK [], .nil, fun Q q => q⟩
  exact q
/-- a tuple of data -/
def eTup (f : AF) : EF := fun ρ => mbind (f ρ) fun xs μ => match dTs μ xs with
  | some ds => if xs.length ≤ SL then some (.ok (.d (.tup ds)) μ) else none
  | none => none
theorem pd_tup {es : List Expr} {t : TA} {f : AF} {k pos} (h : PL K X E es t f) : PD K X E (.Tuple es k pos) (tTup t) (eTup f) := by
  refine ⟨pe_tup h.pe, fun w σ ρ ev => ?_⟩
  show At K E w (fun Q => t σ w.H fun xs H1 => xs.length ≤ sizeLine ∧ ∀ p, H1 p = none → Q (V.ref p) (upd H1 p (.tup xs))) _ _
  refine At.bind rv_m (h.ok w σ ρ ev) fun xs vs w1 e1 s1 hx => ?_
  intro s r e Q k1 k2
  have e : (match dTs w1.μ xs with
    | some ds => if xs.length ≤ SL then some (Rs.ok (T.d (.tup ds)) w1.μ) else none
    | none => none) = some r := e
  split at e
  · rename_i ds hd
    split at e
    · rename_i hl
      cases e
      refine ⟨by rw [← pd_len hx]; exact le_SL hl, fun p hp => ?_⟩
      obtain ⟨n1, n2, n3, n4⟩ := new_ok s (o := .tup vs) hp
      have hF : ({ w1 with H := upd w1.H p (.tup vs) } : Wd).F p = none := n4
      have hat : ({ w1 with H := upd w1.H p (.tup vs) } : Wd).H p = some (.tup vs) := upd_same
      have sm := fz_same hF w1.μ
      refine k1 (.d (.tup ds)) (({ w1 with H := upd w1.H p (.tup vs) } : Wd).fz p w1.μ) (.ref p) rfl ⟨n2.sub.trans sm, n2.pre, n2.dom, n2.keep, fun b h1 h2 h3 => ?_, n2.lv, n2.new⟩ ⟨fun b o' q => ?_, n1.len, n1.nd, n1.tr, fun n b c q1 q2 => ?_⟩ ?_
      · show (if b = p then upd w1.H p (.tup vs) p else w1.F b) = none
        rw [if_neg (fun z => h2 (by rw [z]; exact hp))]
        exact h1
      · show upd w1.H p (.tup vs) b = some o'
        by_cases hb : b = p
        · have q : (if b = p then upd w1.H p (.tup vs) p else w1.F b) = some o' := q
          rw [if_pos hb] at q
          rw [hb]
          exact q
        · have q : (if b = p then upd w1.H p (.tup vs) p else w1.F b) = some o' := q
          rw [if_neg hb] at q
          exact n1.sub b o' q
      · refine (n1.cell n b c q1 q2).rep sm (List.prefix_refl _) (fun l => ?_) fun _ => rfl
        show (if b = p then upd w1.H p (.tup vs) p else w1.F b) = none
        rw [if_neg (fun z => n3 (by rw [← z]; exact List.mem_of_getElem? q1))]
        exact ((n1.cell n b c q1 q2).nn l).1
      · exact ⟨p, vs, rfl, fz_at hat, (dTs_ok s hx hd).mono sm⟩
    · cases e
  · cases e

/-! ### calls of what is built in -/
abbrev RCall := List V → Hp → VK → Prop
def CallV (K : PySem.W.Frag) (r : RCall) (g : Mu → List T → Option T) : Prop := ∀ (w : Wd) (xs : List T) (vs : List V) (z : T), StOk K w → Paired (w.t K) xs vs → g w.μ xs = some z → ∃ v, w.t K z v ∧ ∀ Q : VK, Q v w.H → r vs w.H Q
def CallN (K : PySem.W.Frag) (r : RCall) (g : Mu → List T → Option Cell) : Prop := ∀ (w : Wd) (xs : List T) (vs : List V) (c : Cell), StOk K w → Paired (w.t K) xs vs → g w.μ xs = some c → ∃ o, CellO K w c o ∧ ∀ Q : VK, (∀ p, w.H p = none → Q (.ref p) (upd w.H p o)) → r vs w.H Q
structure BI (K : PySem.W.Frag) (X : Cx) (f : Value) (r : RCall) (g : Mu → List T → Option T) : Prop where
  call : CallR X f r
  ok : CallV K r g
structure BN (K : PySem.W.Frag) (X : Cx) (f : Value) (r : RCall) (g : Mu → List T → Option Cell) : Prop where
  call : CallR X f r
  ok : CallN K r g
theorem rds_ok {w : Wd} (s : StOk K w) : ∀ {xs : List T} {vs : List V}, Paired (w.t K) xs vs → Paired (w.t K) (xs.map (rd w.μ)) vs
  | _, _, .nil => .nil
  | _, _, .cons a b => .cons (rd_ok s a) (rds_ok s b)
def ofG {α : Type} (g : Mu → List T → Option α) (xs : List T) : M α := fun μ => mof (g μ (xs.map (rd μ))) μ
def eB (g : Mu → List T → Option T) (f : AF) : EF := fun ρ => mbind (f ρ) (ofG g)
def cB (g : Mu → List T → Option Cell) (f : AF) : CF := fun ρ => mbind (f ρ) (ofG g)
theorem eok_B {r : RCall} {g : Mu → List T → Option T} {t : TA} {f : AF} (c : CallV K r g) (h : LOk K E t f) : EOk K E (tCB r t) (eB g f) := fun w σ ρ ev => by
  show At K E w (fun Q => t σ w.H fun vs H1 => r vs H1 Q) _ _
  refine At.bind rv_m (h w σ ρ ev) fun xs vs w1 e1 s1 hx => ?_
  have q := At.pure (K := K) (E := E) (w := w1) (t := r vs w1.H) (o := g w1.μ (xs.map (rd w1.μ))) (R := RV K) fun s a ha => c w1 _ vs a s (rds_ok s hx) ha
  exact q
theorem cok_B {r : RCall} {g : Mu → List T → Option Cell} {t : TA} {f : AF} (c : CallN K r g) (h : LOk K E t f) : COk K E (tCB r t) (cB g f) := fun w σ ρ ev => by
  show At K E w (fun Q => t σ w.H fun vs H1 => r vs H1 Q) _ _
  refine At.bind rc_m (h w σ ρ ev) fun xs vs w1 e1 s1 hx => ?_
  have q := at_new (K := K) (E := E) (w := w1) (t := r vs w1.H) (o := g w1.μ (xs.map (rd w1.μ))) fun s a ha => c w1 _ vs a s (rds_ok s hx) ha
  exact q
section
variable {e : Expr} {es : List Expr} {t : TA} {f : AF} {r : RCall} {p pos : Pos} {x : Str} {id : String}
theorem pd_B {g : Mu → List T → Option T} (b : BI K X (.builtin id) r g) (hm : X.mg x = none) (hv : bootBuiltins x = some (.builtin id)) (ha : PL K X E (e :: es) t f) (hg : Gl X x := by rfl) (hn : x ≠ "__name__" := by decide) (hdb : (x == ("__debug__" : Str)) = false := by decide)
    (he : starEach (e :: es) X.env = (false, eval e X.env) :: starEach es X.env := by rfl) (hpl : (backTo pos (starEach es X.env)).any (·.1) = false := by rfl) : PD K X E (.Call (.Name x p) (e :: es) [] pos) (tCB r t) (eB g f) := ⟨pe_callB b.call hg hm hv ha.pe hn hdb he hpl, eok_B b.ok ha.ok⟩
theorem pd_Ty {g : Mu → List T → Option T} (b : BI K X (.type id) r g) (hm : X.mg x = none) (hv : bootBuiltins x = some (.type id)) (ha : PL K X E (e :: es) t f) (hg : Gl X x := by rfl) (hn : x ≠ "__name__" := by decide) (hdb : (x == ("__debug__" : Str)) = false := by decide)
    (he : starEach (e :: es) X.env = (false, eval e X.env) :: starEach es X.env := by rfl) (hpl : (backTo pos (starEach es X.env)).any (·.1) = false := by rfl) : PD K X E (.Call (.Name x p) (e :: es) [] pos) (tCB r t) (eB g f) := ⟨pe_callTy b.call hg hm hv ha.pe hn hdb he hpl, eok_B b.ok ha.ok⟩
theorem pc_B {g : Mu → List T → Option Cell} (b : BN K X (.builtin id) r g) (hm : X.mg x = none) (hv : bootBuiltins x = some (.builtin id)) (ha : PL K X E (e :: es) t f) (hg : Gl X x := by rfl) (hn : x ≠ "__name__" := by decide) (hdb : (x == ("__debug__" : Str)) = false := by decide)
    (he : starEach (e :: es) X.env = (false, eval e X.env) :: starEach es X.env := by rfl) (hpl : (backTo pos (starEach es X.env)).any (·.1) = false := by rfl) : PCr K X E (.Call (.Name x p) (e :: es) [] pos) (tCB r t) (cB g f) := ⟨pe_callB b.call hg hm hv ha.pe hn hdb he hpl, cok_B b.ok ha.ok⟩
theorem pc_Ty {g : Mu → List T → Option Cell} (b : BN K X (.type id) r g) (hm : X.mg x = none) (hv : bootBuiltins x = some (.type id)) (ha : PL K X E (e :: es) t f) (hg : Gl X x := by rfl) (hn : x ≠ "__name__" := by decide) (hdb : (x == ("__debug__" : Str)) = false := by decide)
    (he : starEach (e :: es) X.env = (false, eval e X.env) :: starEach es X.env := by rfl) (hpl : (backTo pos (starEach es X.env)).any (·.1) = false := by rfl) : PCr K X E (.Call (.Name x p) (e :: es) [] pos) (tCB r t) (cB g f) := ⟨pe_callTy b.call hg hm hv ha.pe hn hdb he hpl, cok_B b.ok ha.ok⟩
end
/-- len -/
def lenT (μ : Mu) (x : T) : Option Nat := match x with
  | .d (.str z) => if z.length ≤ SL then some z.length else none
  | x => match lstOf μ x with
    | some xs => some xs.length
    | none => match tupOf x with
      | some xs => some xs.length
      | none => match dctOf μ x with
        | some kvs => some kvs.length
        | none => none
def gLen (μ : Mu) (xs : List T) : Option T := match xs with
  | [x] => (lenT μ x).map fun (n : Nat) => T.d (.int (n : Int))
  | _ => none
def rLenA (K : PySem.W.Frag) : RCall := fun xs H Q => (∃ x n, xs = [x] ∧ LenV K x H n ∧ Q (.int n) H) ∨ ∃ a kvs, xs = [V.ref a] ∧ H a = some (.dK kvs) ∧ Q (.int kvs.length) H
theorem len_v {w : Wd} {x : T} {v : V} {n : Nat} (s : StOk K w) (hx : w.t K x v) (e : lenT w.μ x = some n) : LenV K v w.H n ∨ ∃ a kvs, v = .ref a ∧ w.H a = some (.dK kvs) ∧ n = kvs.length := by
  unfold lenT at e
  split at e
  · rename_i z
    rw [show v = .str z from hx]
    split at e
    · rename_i hz
      cases e
      exact .inl ⟨le_SL hz, rfl⟩
    · cases e
  · split at e
    · rename_i xs hl
      cases e
      obtain ⟨a, vs, h1, h2, h3⟩ := lst_ok s hx hl
      rw [h1]
      exact .inl (.inl ⟨vs, h2, pd_len h3⟩)
    · split at e
      · rename_i xs hl
        cases e
        obtain ⟨a, vs, h1, h2, h3⟩ := tup_ok s hx hl
        rw [h1]
        exact .inl (.inr ⟨vs, .of h2, by rw [← pd_len h3, List.length_map]⟩)
      · split at e
        · rename_i kvs hd
          cases e
          obtain ⟨a, vs, h1, h2, h3⟩ := dct_ok s hx hd
          exact .inr ⟨a, vs, h1, h2, pd_len h3⟩
        · cases e
theorem one_of {w : Wd} {x : T} {vs : List V} (h : Paired (w.t K) [x] vs) : ∃ v, vs = [v] ∧ w.t K x v := by
  cases h with
  | cons a b => cases b; exact ⟨_, rfl, a⟩
theorem two_of {w : Wd} {x y : T} {vs : List V} (h : Paired (w.t K) [x, y] vs) : ∃ v u, vs = [v, u] ∧ w.t K x v ∧ w.t K y u := by
  cases h with
  | cons a b => cases b with
    | cons c d => cases d; exact ⟨_, _, rfl, a, c⟩
theorem bi_len (hK : X.K = K := by rfl) : BI K X (.builtin "len") (rLenA K) gLen := by
  subst hK
  refine ⟨call_len.or call_lenD, fun w xs vs z s hx e => ?_⟩
  unfold gLen at e
  split at e
  · obtain ⟨v, rfl, hv⟩ := one_of hx
    obtain ⟨n, h1, h2⟩ := Option.map_eq_some_iff.mp e
    rw [← h2]
    refine ⟨.int n, rfl, fun Q q => ?_⟩
    rcases len_v s hv h1 with k | ⟨a, kvs, k1, k2, k3⟩
    · exact .inl ⟨v, n, rfl, k, q⟩
    · exact .inr ⟨a, kvs, by rw [k1], k2, by rw [← k3]; exact q⟩
  · cases e
def gAbs (_ : Mu) (xs : List T) : Option T := match xs with
  | [.d (.int i)] => some (.d (.int (if i < 0 then -i else i)))
  | _ => none
theorem bi_abs : BI K X (.builtin "abs") (fun xs H Q => ∃ i, xs = [.int i] ∧ Q (.int (if i < 0 then -i else i)) H) gAbs := ⟨call_abs, fun w xs vs z s hx e => by
  unfold gAbs at e
  split at e
  · rename_i i
    obtain ⟨v, rfl, hv⟩ := one_of hx
    cases e
    exact ⟨_, rfl, fun Q q => ⟨i, by rw [show v = .int i from hv], q⟩⟩
  · cases e⟩
def gMax (_ : Mu) (xs : List T) : Option T := match xs with
  | [.d (.int i), .d (.int j)] => some (.d (.int (if j > i then j else i)))
  | _ => none
def gMin (_ : Mu) (xs : List T) : Option T := match xs with
  | [.d (.int i), .d (.int j)] => some (.d (.int (if j < i then j else i)))
  | _ => none
theorem bi_max (hc : X.calm = true := by rfl) : BI K X (.builtin "max") (fun xs H Q => ∃ i j, xs = [.int i, .int j] ∧ Q (.int (if j > i then j else i)) H) gMax := ⟨call_max2 hc, fun w xs vs z s hx e => by
  unfold gMax at e
  split at e
  · rename_i i j
    obtain ⟨v, u, rfl, hv, hu⟩ := two_of hx
    cases e
    exact ⟨_, rfl, fun Q q => ⟨i, j, by rw [show v = .int i from hv, show u = .int j from hu], q⟩⟩
  · cases e⟩
theorem bi_min (hc : X.calm = true := by rfl) : BI K X (.builtin "min") (fun xs H Q => ∃ i j, xs = [.int i, .int j] ∧ Q (.int (if j < i then j else i)) H) gMin := ⟨call_min2 hc, fun w xs vs z s hx e => by
  unfold gMin at e
  split at e
  · rename_i i j
    obtain ⟨v, u, rfl, hv, hu⟩ := two_of hx
    cases e
    exact ⟨_, rfl, fun Q q => ⟨i, j, by rw [show v = .int i from hv, show u = .int j from hu], q⟩⟩
  · cases e⟩
def gInt (_ : Mu) (xs : List T) : Option T := match xs with
  | [.d (.int i)] => some (.d (.int i))
  | [.d (.bl b)] => some (.d (.int (if b then 1 else 0)))
  | _ => none
theorem bi_int : BI K X (.type "int") (fun xs H Q => (∃ i, xs = [.int i] ∧ Q (.int i) H) ∨ ∃ k, xs = [.bl k] ∧ Q (.int (if k then 1 else 0)) H) gInt := ⟨call_int1, fun w xs vs z s hx e => by
  unfold gInt at e
  split at e
  · rename_i i
    obtain ⟨v, rfl, hv⟩ := one_of hx
    cases e
    exact ⟨_, rfl, fun Q q => .inl ⟨i, by rw [show v = .int i from hv], q⟩⟩
  · rename_i b
    obtain ⟨v, rfl, hv⟩ := one_of hx
    cases e
    exact ⟨_, rfl, fun Q q => .inr ⟨b, by rw [show v = .bl b from hv], q⟩⟩
  · cases e⟩
def gStr (_ : Mu) (xs : List T) : Option T := match xs with
  | [.d (.int i)] => if i.natAbs.log2 < 1920 then some (.d (.str (toString i))) else none
  | _ => none
theorem bi_str : BI K X (.type "str") (fun xs H Q => ∃ i, xs = [.int i] ∧ i.natAbs.log2 < 1920 ∧ Q (.str (toString i)) H) gStr := ⟨call_str_int, fun w xs vs z s hx e => by
  unfold gStr at e
  split at e
  · rename_i i
    obtain ⟨v, rfl, hv⟩ := one_of hx
    split at e
    · rename_i hi
      cases e
      exact ⟨_, rfl, fun Q q => ⟨i, by rw [show v = .int i from hv], hi, q⟩⟩
    · cases e
  · cases e⟩
/-- all, any of truths -/
def blsOf : List T → Option (List Bool)
  | [] => some []
  | .d (.bl b) :: r => (blsOf r).map (b :: ·)
  | _ :: _ => none
theorem bls_ok {w : Wd} : ∀ {xs : List T} {vs : List V} {bs : List Bool}, Paired (w.t K) xs vs → blsOf xs = some bs → vs = bs.map V.bl
  | _, _, _, .nil, e => by cases e; rfl
  | x :: xs, v :: vs, bs, .cons h t, e => by
    unfold blsOf at e
    split at e
    · rename_i hq
      cases hq
    · rename_i b r hq
      cases hq
      obtain ⟨cs, h1, h2⟩ := Option.map_eq_some_iff.mp e
      rw [← h2, bls_ok t h1, show v = .bl b from h] <;> rfl
    · cases e
def gAll (μ : Mu) (xs : List T) : Option T := match xs with
  | [x] => (lstOf μ x).bind fun ys => (blsOf ys).map fun bs => .d (.bl (bs.all id))
  | _ => none
def gAny (μ : Mu) (xs : List T) : Option T := match xs with
  | [x] => (lstOf μ x).bind fun ys => (blsOf ys).map fun bs => .d (.bl (bs.any id))
  | _ => none
theorem bi_all (hc : X.calm = true := by rfl) (hK : X.K = K := by rfl) : BI K X (.builtin "all") (rAll K) gAll := by
  subst hK
  refine ⟨cr_all hc, fun w xs vs z s hx e => ?_⟩
  unfold gAll at e
  split at e
  · obtain ⟨v, rfl, hv⟩ := one_of hx
    obtain ⟨ys, h1, h2⟩ := Option.bind_eq_some_iff.mp e
    obtain ⟨bs, h3, h4⟩ := Option.map_eq_some_iff.mp h2
    obtain ⟨a, us, h5, h6, h7⟩ := lst_ok s hv h1
    rw [← h4]
    exact ⟨_, rfl, fun Q q => ⟨a, bs, by rw [h5], by rw [← bls_ok h7 h3]; exact h6, q⟩⟩
  · cases e
theorem bi_any (hc : X.calm = true := by rfl) (hK : X.K = K := by rfl) : BI K X (.builtin "any") (rAny K) gAny := by
  subst hK
  refine ⟨cr_any hc, fun w xs vs z s hx e => ?_⟩
  unfold gAny at e
  split at e
  · obtain ⟨v, rfl, hv⟩ := one_of hx
    obtain ⟨ys, h1, h2⟩ := Option.bind_eq_some_iff.mp e
    obtain ⟨bs, h3, h4⟩ := Option.map_eq_some_iff.mp h2
    obtain ⟨a, us, h5, h6, h7⟩ := lst_ok s hv h1
    rw [← h4]
    exact ⟨_, rfl, fun Q q => ⟨a, bs, by rw [h5], by rw [← bls_ok h7 h3]; exact h6, q⟩⟩
  · cases e
/-- sorted of texts, or of a dict's keys that are texts -/
def strsOf : List T → Option (List Str)
  | [] => some []
  | .d (.str b) :: r => (strsOf r).map (b :: ·)
  | _ :: _ => none
def keysOf {α : Type} : List (Key × α) → Option (List Str)
  | [] => some []
  | (.inr b, _) :: r => (keysOf r).map (b :: ·)
  | _ :: _ => none
theorem strs_ok {w : Wd} : ∀ {xs : List T} {vs : List V} {bs : List Str}, Paired (w.t K) xs vs → strsOf xs = some bs → vs = bs.map V.str
  | _, _, _, .nil, e => by cases e; rfl
  | x :: xs, v :: vs, bs, .cons h t, e => by
    unfold strsOf at e
    split at e
    · rename_i hq
      cases hq
    · rename_i b r hq
      cases hq
      obtain ⟨cs, h1, h2⟩ := Option.map_eq_some_iff.mp e
      rw [← h2, strs_ok t h1, show v = .str b from h] <;> rfl
    · cases e
theorem keys_ok {R : T → V → Prop} : ∀ {xs : List (Key × T)} {vs : List (Key × V)} {bs : List Str}, Paired (fun p q => p.1 = q.1 ∧ R p.2 q.2) xs vs → keysOf xs = some bs → vs.map (·.1) = bs.map Sum.inr
  | _, _, _, .nil, e => by cases e; rfl
  | (k, x) :: xs, (k', v) :: vs, bs, .cons h t, e => by
    obtain ⟨h0, _⟩ := h
    cases h0
    unfold keysOf at e
    split at e
    · rename_i hq
      cases hq
    · rename_i b y r hq
      cases hq
      obtain ⟨cs, h1, h2⟩ := Option.map_eq_some_iff.mp e
      rw [← h2]
      show _ :: vs.map (·.1) = _
      rw [keys_ok t h1] <;> rfl
    · cases e
def sortT (ks : List Str) : Option Cell := if ks.length < 64 then some (.lst ((sortS ks).map fun s => .d (.str s))) else none
def gSorted (μ : Mu) (xs : List T) : Option Cell := match xs with
  | [x] => match lstOf μ x with
    | some ys => (strsOf ys).bind sortT
    | none => (dctOf μ x).bind fun kvs => (keysOf kvs).bind sortT
  | _ => none
theorem str_paired {w : Wd} : ∀ ks : List Str, Paired (w.t K) (ks.map fun s => T.d (.str s)) (ks.map V.str)
  | [] => .nil
  | k :: r => .cons rfl (str_paired r)
def rSortedA (K : PySem.W.Frag) : RCall := fun xs H Q => rSortedS K xs H Q ∨ ∃ (a : Addr) (kvs : List (Key × V)) (ks : List Str), xs = [.ref a] ∧ Rd H a (.dK kvs) ∧ kvs.map (·.1) = ks.map Sum.inr ∧ ks.length < 64 ∧
    ∀ ys p, ys.Perm ks → sortedS ys = true → H p = none → Q (.ref p) (upd H p (.lst (ys.map V.str)))
theorem bn_sorted (hc : X.calm = true := by rfl) (hK : X.K = K := by rfl) : BN K X (.builtin "sorted") (rSortedA K) gSorted := by
  subst hK
  refine ⟨cr_sortedS.or (call_sortedD hc), fun w xs vs c s hx e => ?_⟩
  unfold gSorted at e
  split at e
  · obtain ⟨v, rfl, hv⟩ := one_of hx
    split at e
    · rename_i ys hl
      obtain ⟨ks, h1, h2⟩ := Option.bind_eq_some_iff.mp e
      obtain ⟨a, us, h5, h6, h7⟩ := lst_ok s hv hl
      unfold sortT at h2
      split at h2
      · rename_i h64
        cases h2
        refine ⟨.lst ((sortS ks).map V.str), str_paired _, fun Q q => .inl ⟨a, ks, by rw [h5], by rw [← strs_ok h7 h1]; exact h6, h64, fun ys p hp hs hn => ?_⟩⟩
        rw [sorted_is hp hs]
        exact q p hn
      · cases h2
    · obtain ⟨kvs, h0, h1⟩ := Option.bind_eq_some_iff.mp e
      obtain ⟨ks, h1b, h2⟩ := Option.bind_eq_some_iff.mp h1
      obtain ⟨a, us, h5, h6, h7⟩ := dct_ok s hv h0
      unfold sortT at h2
      split at h2
      · rename_i h64
        cases h2
        refine ⟨.lst ((sortS ks).map V.str), str_paired _, fun Q q => .inr ⟨a, us, ks, by rw [h5], .of h6, keys_ok h7 h1b, h64, fun ys p hp hs hn => ?_⟩⟩
        rw [sorted_is hp hs]
        exact q p hn
      · cases h2
  · cases e
/-- list(xs), dict(d): copies -/
def gList (μ : Mu) (xs : List T) : Option Cell := match xs with
  | [x] => (lstOf μ x).map Cell.lst
  | _ => none
theorem bn_list (hK : X.K = K := by rfl) : BN K X (.type "list") (fun xs H Q => ∃ p ys, xs = [.ref p] ∧ (SqL K H p ys ∨ SqT K H p ys) ∧ ∀ l, H l = none → Q (.ref l) (upd H l (.lst ys))) gList := by
  subst hK
  refine ⟨call_list_of, fun w xs vs c s hx e => ?_⟩
  unfold gList at e
  split at e
  · obtain ⟨v, rfl, hv⟩ := one_of hx
    obtain ⟨ys, h1, h2⟩ := Option.map_eq_some_iff.mp e
    obtain ⟨a, us, h5, h6, h7⟩ := lst_ok s hv h1
    rw [← h2]
    exact ⟨.lst us, h7, fun Q q => ⟨a, us, by rw [h5], .inl h6, q⟩⟩
  · cases e
def gDict (μ : Mu) (xs : List T) : Option Cell := match xs with
  | [x] => (dctOf μ x).map Cell.dct
  | _ => none
theorem bn_dict : BN K X (.type "dict") (fun xs H Q => ∃ a kvs, xs = [.ref a] ∧ H a = some (.dK kvs) ∧ ∀ l, H l = none → Q (.ref l) (upd H l (.dK kvs))) gDict := by
  refine ⟨fun pins s σ H xs us Q I r h => ?_, fun w xs vs c s hx e => ?_⟩
  · obtain ⟨a, kvs, rfl, ha, q⟩ := h
    obtain ⟨u, rfl, ru⟩ := vals1 r
    cases ru
    exact d_copyOf I (.inl ha) fun p s' hp I' => ⟨.ref p, _, I', rfl, q p hp⟩
  · unfold gDict at e
    split at e
    · obtain ⟨v, rfl, hv⟩ := one_of hx
      obtain ⟨ys, h1, h2⟩ := Option.map_eq_some_iff.mp e
      obtain ⟨a, us, h5, h6, h7⟩ := dct_ok s hv h1
      rw [← h2]
      exact ⟨.dK us, h7, fun Q q => ⟨a, us, by rw [h5], h6, q⟩⟩
    · cases e
/-- isinstance(x, T), T a built-in type -/
@[simp] def tyOf (μ : Mu) : T → Option String
  | .d .non => some "NoneType"
  | .d (.bl _) => some "bool"
  | .d (.int _) => some "int"
  | .d (.str _) => some "str"
  | .d (.lst _) => some "list"
  | .d (.tup _) => some "tuple"
  | .d (.dct _) => some "dict"
  | .d (.kl _) => none
  | .p n => match μ[n]? with
    | some (.lst _) => some "list"
    | some (.dct _) => some "dict"
    | _ => none
@[simp] def isi (ty : String) (μ : Mu) (x : T) : Option T := (tyOf μ x).bind fun a => (kitB a ty).map fun b => .d (.bl b)
@[simp] def eIsi (ty : String) (f : EF) : EF := fun ρ => mbind (f ρ) fun x μ => mof (isi ty μ (rd μ x)) μ
theorem ty_v {w : Wd} {x : T} {v : V} {a : String} (s : StOk K w) (hx : w.t K x v) (e : tyOf w.μ x = some a) : TyOf K w.H v (.type a) := by
  cases x with
  | d d =>
    cases d with
    | non => cases e; rw [show v = _ from hx]; exact .non
    | bl b => cases e; rw [show v = _ from hx]; exact .bl b
    | int b => cases e; rw [show v = _ from hx]; exact .int b
    | str b => cases e; rw [show v = _ from hx]; exact .str b
    | lst b => cases e; obtain ⟨a, vs, e1, e2, _⟩ := hx; rw [e1]; exact .lst (s.sub _ _ e2)
    | tup b => cases e; obtain ⟨a, vs, e1, e2, _⟩ := hx; rw [e1]; exact .tup (s.sub _ _ e2)
    | dct b => cases e; obtain ⟨a, vs, e1, e2, _⟩ := hx; rw [e1]; exact .dK (s.sub _ _ e2)
    | kl b => cases e
  | p n =>
    obtain ⟨a, h1, h2⟩ := hx
    rw [h2]
    unfold tyOf at e
    split at e <;> try (rename_i hq; cases hq)
    split at e
    · rename_i n' hq xs hn
      cases e
      obtain ⟨_, vs, q1, _⟩ := s.cell n a _ h1 hn
      exact .lst q1
    · rename_i n' hq xs hn
      cases e
      obtain ⟨_, vs, q1, _⟩ := s.cell n a _ h1 hn
      exact .dK q1
    · cases e
theorem pd_isi {a : Expr} {ta : TE} {fa : EF} {p p2 pos : Pos} {x : Str} {ty : String} (ha : PD K X E a ta fa) (hm : X.mg "isinstance" = none) (hmx : X.mg x = none) (hv : bootBuiltins x = some (.type ty)) (hg : Gl X "isinstance" := by rfl) (hgx : Gl X x := by rfl) (hK : X.K = K := by rfl)
    (hn : x ≠ "__name__" := by decide) (hd : (x == ("__debug__" : Str)) = false := by decide)
    (he : starEach (a :: [.Name x p2]) X.env = (false, eval a X.env) :: starEach [.Name x p2] X.env := by rfl) (hpl : (backTo pos (starEach [.Name x p2] X.env)).any (·.1) = false := by rfl) :
    PD K X E (.Call (.Name "isinstance" p) [a, .Name x p2] [] pos) (tCB (rIsi K) (tCons ta (tCons (tC (.ty ty)) tNil))) (eIsi ty fa) := by
  subst hK
  refine ⟨pe_callB call_isi hg hm (by decide +kernel) (pa_cons ha.pe (pa_cons (pe_bltn hgx hmx hv (show RelV (.ty ty) (.type ty) from rfl) hn hd) pa_nil) he) (by decide) (by decide) he hpl, fun w σ ρ ev => ?_⟩
  show At X.K E w (fun Q => ta σ w.H fun x H1 => rIsi X.K [x, V.ty ty] H1 Q) _ _
  refine At.bind rv_m (ha.ok w σ ρ ev) fun x v w1 e1 s1 hx => ?_
  have q := At.pure (K := X.K) (E := E) (w := w1) (t := rIsi X.K [v, .ty ty] w1.H) (o := isi ty w1.μ (rd w1.μ x)) (R := RV X.K) fun s b hb => by
    unfold isi at hb
    obtain ⟨ty0, h1, h2⟩ := Option.bind_eq_some_iff.mp hb
    obtain ⟨b', h3, h4⟩ := Option.map_eq_some_iff.mp h2
    rw [← h4]
    exact ⟨.bl b', rfl, fun Q q => ⟨v, .ty ty, .type ty0, .type ty, b', rfl, .ty ty, .base (ty_v s (rd_ok s hx) h1), kit_ty h3, q⟩⟩
  exact q
end
end Fm
set_option Elab.async false
set_option linter.all false
set_option maxRecDepth 100000
namespace Fm
open PySem L2 PySem.Spec PyProof.Rows

/-! ### what a def promises -/
abbrev FN := List T → M T
def Ends' (K : PySem.W.Frag) (E : XK) (w : Wd) {α β : Type} (R : Wd → α → β → Prop) (Q : β → Hp → Prop) (r : Rs α) : Prop :=
  (∀ a w' b, r = .ok a w'.μ → Ext w w' → StOk K w' → R w' a b → Q b w'.H) ∧ (∀ x w' cls d, r = .ex x w'.μ → Ext w w' → StOk K w' → ExnOk K w' x cls d → E cls d w'.H)
def spM (K : PySem.W.Frag) (n : Nat) (fn : FN) : Sp := fun vs H Q E => vs.length = n ∧ ∃ (w : Wd) (xs : List T) (r : Rs T), w.H = H ∧ StOk K w ∧ Paired (w.t K) xs vs ∧ fn xs w.μ = some r ∧ Ends' K E w (fun w' a v => w'.t K a v) Q r
/-- the def called x stands, with n parameters, and does fn -/
structure Fn (P : Program) (w : World) (K : PySem.W.Frag) (mg : Str → Option Value) (base : Heap) (k : Nat) (x : Str) (n : Nat) (fn : FN) : Prop where
  ex : ∃ (f : Addr) (fd : FuncData) (ps : List Str), FnOk P w K mg base (L2.CX P w) k f fd ps (spM K n fn) ∧ mg x = some (.ref f) ∧ PySem.W.keepIn K (.ref f) = true ∧ Binds K fd ps [] ∧ ps.length = n
theorem Fn.mono {P : Program} {w : World} {K : PySem.W.Frag} {mg : Str → Option Value} {base : Heap} {j k : Nat} {x : Str} {n : Nat} {fn : FN} (h : Fn P w K mg base j x n fn) (l : j ≤ k) : Fn P w K mg base k x n fn :=
  let ⟨f, fd, ps, a, b⟩ := h.ex
  ⟨f, fd, ps, a.mono l, b⟩
theorem Fn.imp {P : Program} {w : World} {K : PySem.W.Frag} {mg : Str → Option Value} {base : Heap} {k : Nat} {x : Str} {n : Nat} {fn fn' : FN} (h : Fn P w K mg base k x n fn) (hi : ∀ xs μ r, fn' xs μ = some r → fn xs μ = some r) : Fn P w K mg base k x n fn' :=
  let ⟨f, fd, ps, a, b⟩ := h.ex
  ⟨f, fd, ps, a.imp fun vs H Q E ⟨h1, w, xs, r, h2, h3, h4, h5, h6⟩ => ⟨h1, w, xs, r, h2, h3, h4, hi _ _ _ h5, h6⟩, b⟩
/-- a place in a def's body (or a comprehension's block) -/
structure Bd (X : Cx) (E : XK) (k : Nat) : Prop where
  room : Room k X.A
  pas : Passes (L2.CX X.prog X.w) X E
  calm : X.calm = true
theorem Bd.hu {X : Cx} {E : XK} {k : Nat} (B : Bd X E k) : X.A.units + 1 < cLine := hu_of B.room
theorem At.use {K : PySem.W.Frag} {E : XK} {α β γ : Type} {w : Wd} {t : (β → Hp → Prop) → Prop} {f : M α} {R : RT α β} {g : α → M γ} {r : Rs γ} (h : At K E w t f R) (s : StOk K w) (e : mbind f g w.μ = some r) (Q : β → Hp → Prop)
    (h1 : ∀ a w1 b, f w.μ = some (.ok a w1.μ) → g a w1.μ = some r → Ext w w1 → StOk K w1 → R w w1 a b → Q b w1.H) (h2 : ∀ x w' cls d, r = .ex x w'.μ → Ext w w' → StOk K w' → ExnOk K w' x cls d → E cls d w'.H) : t Q := by
  unfold mbind at e
  cases hf : f w.μ with
  | none => rw [hf] at e; cases e
  | some r1 =>
    rw [hf] at e
    cases r1 with
    | ex y μ1 =>
      cases e
      exact h s _ hf _ (fun a w' b z => by cases z) fun y' w' cls d z => by cases z; exact h2 _ w' cls d rfl
    | ok a μ1 =>
      exact h s _ hf _ (fun a w1 b z e1 s1 k => by cases z; exact h1 _ w1 b hf e e1 s1 k) fun _ _ _ _ z => by cases z
section
variable {X : Cx} {E : XK} {K : PySem.W.Frag}
@[simp] def eDef (fn : FN) (f : AF) : EF := fun ρ => mbind (f ρ) fn
theorem eok_def {n : Nat} {fn : FN} {t : TA} {f : AF} (hn : ∀ ρ μ xs μ', f ρ μ = some (.ok xs μ') → xs.length = n) (h : LOk K E t f) : EOk K E (tCall (spM K n fn) [] E t) (eDef fn f) := fun w σ ρ ev s r e Q q1 q2 => by
  show t σ w.H fun vs H1 => spM K n fn (vs ++ []) H1 Q E
  refine At.use (h w σ ρ ev) s e _ (fun xs w' vs hf e e1 s1 k => ?_) q2
  have hl := hn _ _ _ _ hf
  refine ⟨by rw [List.append_nil, ← pd_len k]; exact hl, w', xs, r, rfl, s1, by rw [List.append_nil]; exact k, e, ?_, ?_⟩
  · exact fun a w2 b z e2 s2 k2 => q1 a w2 b z (e1.trans e2) s2 k2
  · exact fun x w2 cls d z e2 s2 k2 => q2 x w2 cls d z (e1.trans e2) s2 k2
/-- how many arguments are written -/
def ALen (f : AF) (n : Nat) : Prop := ∀ ρ μ xs μ', f ρ μ = some (.ok xs μ') → xs.length = n
theorem alen_nil : ALen aNil 0 := fun ρ μ xs μ' h => by cases h; rfl
theorem mbind_ok {α β : Type} {f : M α} {g : α → M β} {μ μ' : Mu} {b : β} (h : mbind f g μ = some (.ok b μ')) : ∃ a μ1, f μ = some (.ok a μ1) ∧ g a μ1 = some (.ok b μ') := by
  unfold mbind at h
  cases h1 : f μ with
  | none => rw [h1] at h; cases h
  | some r => cases r with
    | ex => rw [h1] at h; cases h
    | ok a μ1 => rw [h1] at h; exact ⟨a, μ1, rfl, h⟩
theorem alen_cons {f : EF} {g : AF} {n : Nat} (h : ALen g n) : ALen (aCons f g) (n + 1) := fun ρ μ xs μ' e => by
  obtain ⟨a, μ1, h1, e⟩ := mbind_ok e
  obtain ⟨ys, μ2, h2, e⟩ := mbind_ok e
  cases e
  rw [List.length_cons, h _ _ _ _ h2]
theorem pd_def {k n : Nat} {x : Str} {e : Expr} {es : List Expr} {p pos : Pos} {fn : FN} {t : TA} {f : AF} (B : Bd X E k) (F : Fn X.prog X.w K X.mg X.base k x n fn) (ha : PL K X E (e :: es) t f) (hn : ALen f n) (hg : Gl X x := by rfl) (hK : X.K = K := by rfl)
    (hdb : (x == ("__debug__" : Str)) = false := by decide) (he : starEach (e :: es) X.env = (false, eval e X.env) :: starEach es X.env := by rfl) (hpl : (backTo pos (starEach es X.env)).any (·.1) = false := by rfl) :
    PD K X E (.Call (.Name x p) (e :: es) [] pos) (tCall (spM K n fn) [] E t) (eDef fn f) := by
  subst hK
  obtain ⟨fa, fd, ps, h1, h2, h3, h4, h5⟩ := F.ex
  exact ⟨pe_call h1 B.room hg h2 h3 h4 .nil B.pas ha.pe hdb he hpl, eok_def hn ha.ok⟩
theorem pd_def0 {k : Nat} {x : Str} {p pos : Pos} {fn : FN} (B : Bd X E k) (F : Fn X.prog X.w K X.mg X.base k x 0 fn) (hg : Gl X x := by rfl) (hK : X.K = K := by rfl) (hdb : (x == ("__debug__" : Str)) = false := by decide) :
    PD K X E (.Call (.Name x p) [] [] pos) (tCall (spM K 0 fn) [] E tNil) (eDef fn aNil) := by
  subst hK
  obtain ⟨fa, fd, ps, h1, h2, h3, h4, h5⟩ := F.ex
  exact ⟨pe_call0 h1 B.room hg h2 h3 h4 .nil B.pas hdb, eok_def alen_nil (pl_nil (X := X)).ok⟩

/-! ### what is walked -/
/-- from w on, each turn's item: the world behind it, and what the item is -/
def Yields (K : PySem.W.Frag) (w : Wd) (xs : List T) (G : Hp → Prop) (Y : Nat → Hp → V → Hp → Prop) : Prop :=
  ∀ w1, Ext w w1 → StOk K w1 → G w1.H ∧ ∀ i x H', i < xs.length → Y i w1.H x H' → ∃ w2 t, w2.H = H' ∧ w2.μ = w1.μ ∧ Ext w1 w2 ∧ StOk K w2 ∧ xs[i]? = some t ∧ w2.t K t x
def IOk (K : PySem.W.Frag) (E : XK) (wi : TI) (f : AF) : Prop := ∀ w σ ρ, EnvOk K w σ ρ → StOk K w → ∀ r, f ρ w.μ = some r → ∀ R : It → Hp → Prop,
  (∀ xs w', r = .ok xs w'.μ → Ext w w' → StOk K w' → ∀ J G Y, Walk J xs.length G Y → Yields K w' xs G Y → R J w'.H) →
  (∀ x w' cls d, r = .ex x w'.μ → Ext w w' → StOk K w' → ExnOk K w' x cls d → E cls d w'.H) → wi σ w.H R
structure PIt (K : PySem.W.Frag) (X : Cx) (E : XK) (tg e : Expr) (wi : TI) (f : AF) : Prop where
  pe : PI X tg e wi
  ok : IOk K E wi f
/-- items that stand: the heap as it was -/
theorem yields_at {w : Wd} {xs : List T} {vs : List V} {G : Hp → Prop} {Y : Nat → Hp → V → Hp → Prop} (h : Paired (w.t K) xs vs) (hG : ∀ w1, Ext w w1 → StOk K w1 → G w1.H) (hY : ∀ i H x H', Y i H x H' → H' = H ∧ vs[i]? = some x) : Yields K w xs G Y := fun w1 e1 s1 => ⟨hG w1 e1 s1, fun i x H' hi y => by
  obtain ⟨h1, h2⟩ := hY i w1.H x H' y
  obtain ⟨t, h3, h4⟩ := pd_get' h h2
  exact ⟨w1, t, h1.symm, rfl, Ext.refl _, s1, h3, e1.t h4⟩⟩
/-- the items of data that is a list (or a written list, the script) -/
def lstD : T → Option (List T)
  | .d (.lst ds) => some (ds.map T.d)
  | .d (.kl ns) => some (ns.map fun i => T.d (.int i))
  | _ => none
theorem lstD_ok {w : Wd} {x : T} {v : V} {xs : List T} (hx : w.t K x v) (e : lstD x = some xs) : ∃ a vs, v = .ref a ∧ SqL K w.F a vs ∧ Paired (w.t K) xs vs := by
  unfold lstD at e
  split at e
  · cases e
    obtain ⟨a, vs, h1, h2, h3⟩ := hx
    exact ⟨a, vs, h1, .of h2, d_paired h3⟩
  · cases e
    obtain ⟨a, h1, h2⟩ := hx
    exact ⟨a, _, h1, h2, kl_paired _⟩
  · cases e
def iLst (f : EF) : AF := fun ρ => mbind (f ρ) fun x μ => mof (lstD (rd μ x)) μ
theorem it_lst {tg e : Expr} {t : TE} {f : EF} (h : PD K X E e t f) (hK : X.K = K := by rfl) : PIt K X E tg e (iList K t) (iLst f) := by
  subst hK
  refine ⟨pi_list h.pe, fun w σ ρ ev s r er R q1 q2 => ?_⟩
  show t σ w.H fun x H1 => ∃ a, x = .ref a ∧ (∃ xs, SqL X.K H1 a xs) ∧ R (Itl X.K a) H1
  refine At.use (h.ok w σ ρ ev) s er _ (fun x w1 v _ er2 e1 s2 hx => ?_) q2
  have er2 : mof (lstD (rd w1.μ x)) w1.μ = some r := er2
  unfold mof at er2
  cases hl : lstD (rd w1.μ x) with
  | none => rw [hl] at er2; cases er2
  | some xs =>
    rw [hl] at er2
    cases er2
    obtain ⟨a, vs, h1, h2, h3⟩ := lstD_ok (rd_ok s2 hx) hl
    refine ⟨a, h1, ⟨vs, s2.sub.seq h2⟩, ?_⟩
    have wk := walk_list (K := X.K) (a := a) (xs := vs)
    rw [← pd_len h3] at wk
    exact q1 xs w1 rfl e1 s2 _ _ _ wk (yields_at h3 (fun w2 e2 s3 => s3.sub.seq (e2.sub.seq h2)) fun i H x H' y => y)
/-- a text, sign by sign -/
def strD : T → Option (List T)
  | .d (.str z) => some (z.cps.toList.map fun c => T.d (.str ⟨#[c]⟩))
  | _ => none
def iStrD (f : EF) : AF := fun ρ => mbind (f ρ) fun x μ => mof (strD (rd μ x)) μ
theorem sig_paired {w : Wd} : ∀ cs : List Nat, Paired (w.t K) (cs.map fun c => T.d (.str ⟨#[c]⟩)) (cs.map fun c => V.str ⟨#[c]⟩)
  | [] => .nil
  | k :: r => .cons rfl (sig_paired r)
theorem it_str {tg e : Expr} {t : TE} {f : EF} (h : PD K X E e t f) : PIt K X E tg e (iStr t) (iStrD f) := by
  refine ⟨pi_str h.pe, fun w σ ρ ev s r er R q1 q2 => ?_⟩
  show t σ w.H fun v H1 => ∃ x, v = .str x ∧ R (Its x) H1
  refine At.use (h.ok w σ ρ ev) s er _ (fun x w1 v _ er2 e1 s2 hx => ?_) q2
  have er2 : mof (strD (rd w1.μ x)) w1.μ = some r := er2
  have hx := rd_ok s2 hx
  generalize rd w1.μ x = y at er2 hx
  unfold strD mof at er2
  split at er2
  · cases er2
  · rename_i xs hxs
    split at hxs
    · rename_i z
      cases hxs
      cases er2
      refine ⟨z, hx, ?_⟩
      have wk := walk_str (z := z)
      refine q1 _ w1 rfl e1 s2 _ (fun _ => True) (fun i H v H' => H' = H ∧ ∃ c, z.cps[i]? = some c ∧ v = .str ⟨#[c]⟩) ?_ (yields_at (sig_paired z.cps.toList) (fun _ _ _ => trivial) fun i H x H' y => ⟨y.1, ?_⟩)
      · rw [List.length_map, Array.length_toList]
        exact wk
      · obtain ⟨_, c, h1, h2⟩ := y
        rw [List.getElem?_map, h2, Array.getElem?_toList, h1] <;> rfl
    · cases hxs
/-- range(n), range(a, b) -/
def rngL (lo : Int) (n : Nat) : List T := (List.range n).map fun (i : Nat) => T.d (.int (lo + i))
def rng1 (xs : List T) : Option (List T) := match xs with
  | [.d (.int j)] => if -(2 ^ 62) ≤ j ∧ j < 2 ^ 62 then some (rngL 0 j.toNat) else none
  | _ => none
def rng2 (xs : List T) : Option (List T) := match xs with
  | [.d (.int i), .d (.int j)] => if -(2 ^ 62) ≤ i ∧ i < 2 ^ 62 ∧ -(2 ^ 62) ≤ j ∧ j < 2 ^ 62 then some (rngL i (j - i).toNat) else none
  | _ => none
def iRg (g : List T → Option (List T)) (f : AF) : AF := fun ρ => mbind (f ρ) fun xs μ => mof (g (xs.map (rd μ))) μ
theorem yields_rng {w : Wd} (lo : Int) (n : Nat) : Yields K w (rngL lo n) (fun _ => True) (YFn fun i => .int (lo + i)) := fun w1 e1 s1 => ⟨trivial, fun i x H' hi y => by
  obtain ⟨h1, h2⟩ := y
  unfold rngL at hi ⊢
  rw [List.length_map, List.length_range] at hi
  refine ⟨w1, .d (.int (lo + i)), h1.symm, rfl, Ext.refl _, s1, ?_, h2⟩
  rw [List.getElem?_map, List.getElem?_range hi] <;> rfl⟩
theorem rngL_len (lo : Int) (n : Nat) : (rngL lo n).length = n := by unfold rngL; rw [List.length_map, List.length_range]
theorem it_rng1 {tg a : Expr} {t : TA} {f : AF} {p pos : Pos} (hm : X.mg "range" = none) (h : PL K X E [a] t f) (hg : Gl X "range" := by rfl) (hs : starEach [a] X.env = [(false, eval a X.env)] := by rfl) : PIt K X E tg (.Call (.Name "range" p) [a] [] pos) (iRng1 t) (iRg rng1 f) := by
  refine ⟨pi_range1 hg hm h.pe hs, fun w σ ρ ev s r er R q1 q2 => ?_⟩
  show t σ w.H fun vs H1 => ∃ j : Int, vs = [.int j] ∧ -(2 ^ 62) ≤ j ∧ j < 2 ^ 62 ∧ R (Itr 0 j.toNat) H1
  refine At.use (h.ok w σ ρ ev) s er _ (fun xs w1 vs _ er2 e1 s2 hx => ?_) q2
  have er2 : mof (rng1 (xs.map (rd w1.μ))) w1.μ = some r := er2
  have hx := rds_ok s2 hx
  generalize xs.map (rd w1.μ) = ys at er2 hx
  unfold rng1 mof at er2
  split at er2
  · cases er2
  · rename_i zs hzs
    split at hzs
    · rename_i j
      split at hzs
      · rename_i hj
        cases hzs
        cases er2
        obtain ⟨v, rfl, hv⟩ := one_of hx
        refine ⟨j, by rw [show v = .int j from hv], hj.1, hj.2, q1 _ w1 rfl e1 s2 _ _ _ ?_ (yields_rng 0 j.toNat)⟩
        rw [rngL_len]
        exact walk_range
      · cases hzs
    · cases hzs
theorem it_rng2 {tg a b : Expr} {t : TA} {f : AF} {p pos : Pos} (hm : X.mg "range" = none) (h : PL K X E [a, b] t f) (hg : Gl X "range" := by rfl) (hs : starEach [a, b] X.env = [(false, eval a X.env), (false, eval b X.env)] := by rfl) (hs2 : starEach [b] X.env = [(false, eval b X.env)] := by rfl) :
    PIt K X E tg (.Call (.Name "range" p) [a, b] [] pos) (iRng2 t) (iRg rng2 f) := by
  refine ⟨pi_range2 hg hm h.pe hs hs2, fun w σ ρ ev s r er R q1 q2 => ?_⟩
  show t σ w.H fun vs H1 => ∃ i j : Int, vs = [.int i, .int j] ∧ (-(2 ^ 62) ≤ i ∧ i < 2 ^ 62 ∧ -(2 ^ 62) ≤ j ∧ j < 2 ^ 62) ∧ R (Itr i (j - i).toNat) H1
  refine At.use (h.ok w σ ρ ev) s er _ (fun xs w1 vs _ er2 e1 s2 hx => ?_) q2
  have er2 : mof (rng2 (xs.map (rd w1.μ))) w1.μ = some r := er2
  have hx := rds_ok s2 hx
  generalize xs.map (rd w1.μ) = ys at er2 hx
  unfold rng2 mof at er2
  split at er2
  · cases er2
  · rename_i zs hzs
    split at hzs
    · rename_i i j
      split at hzs
      · rename_i hj
        cases hzs
        cases er2
        obtain ⟨v, u, rfl, hv, hu⟩ := two_of hx
        refine ⟨i, j, by rw [show v = .int i from hv, show u = .int j from hu], hj, q1 _ w1 rfl e1 s2 _ _ _ ?_ (yields_rng i (j - i).toNat)⟩
        rw [rngL_len]
        exact walk_range
      · cases hzs
    · cases hzs

/-! ### targets -/
abbrev GF := T → Rho → M Rho
/-- only the places is change -/
def Keeps (is : List Nat) (σ σ' : L2.St) : Prop := σ'.length = σ.length ∧ ∀ j, j ∉ is → σ'[j]? = σ[j]?
theorem Keeps.refl (is : List Nat) (σ : L2.St) : Keeps is σ σ := ⟨rfl, fun _ _ => rfl⟩
theorem keeps_set (σ : L2.St) (i : Nat) (x : Option V) : Keeps [i] σ (σ.set i x) := ⟨List.length_set .., fun j h => by rw [List.getElem?_set_ne (fun e => h (by simp [e]))]⟩
theorem Keeps.trans {is js : List Nat} {σ σ1 σ2 : L2.St} (a : Keeps is σ σ1) (b : Keeps js σ1 σ2) : Keeps (is ++ js) σ σ2 := ⟨b.1.trans a.1, fun j h => (b.2 j fun q => h (List.mem_append_right _ q)).trans (a.2 j fun q => h (List.mem_append_left _ q))⟩
def GOk (K : PySem.W.Frag) (is : List Nat) (g : TG) (f : GF) : Prop := ∀ (w : Wd) (σ : L2.St) (ρ : Rho) (x : T) (v : V) (ρ' : Rho), EnvOk K w σ ρ → StOk K w → w.t K x v → f x ρ w.μ = some (.ok ρ' w.μ) → ∀ Q : L2.St → Hp → Prop, (∀ σ', EnvOk K w σ' ρ' → Keeps is σ σ' → Q σ' w.H) → g v σ w.H Q
/-- a target's function tells a new environment and leaves the store -/
def GNo (f : GF) : Prop := ∀ x ρ μ r, f x ρ μ = some r → ∃ ρ', r = .ok ρ' μ
structure PGt (K : PySem.W.Frag) (X : Cx) (is : List Nat) (tg : Expr) (g : TG) (f : GF) : Prop where
  pe : PG X tg g
  ok : GOk K is g f
  no : GNo f
@[simp] def gN (i : Nat) : GF := fun x ρ => mret (ρ.set i (some x))
theorem env_set {w : Wd} {σ : L2.St} {ρ : Rho} {x : T} {v : V} (h : EnvOk K w σ ρ) (i : Nat) (r : w.t K x v) : EnvOk K w (σ.set i (some v)) (ρ.set i (some x)) := by
  refine ⟨by rw [List.length_set, List.length_set]; exact h.1, fun j y hy => ?_⟩
  by_cases e : i = j
  · subst e
    have hl : i < ρ.length := by
      have := (List.getElem?_eq_some_iff.mp hy).1
      rwa [List.length_set] at this
    rw [List.getElem?_set_self hl] at hy
    cases hy
    exact ⟨v, by rw [List.getElem?_set_self (by rw [h.1]; exact hl)], r⟩
  · rw [List.getElem?_set_ne e] at hy ⊢
    exact h.2 j y hy
theorem gok_n (i : Nat) : GOk K [i] (gName i) (gN i) := fun w σ ρ x v ρ' ev _ hx e Q q => by
  cases e
  exact q _ (env_set ev i hx) (keeps_set σ i _)
theorem gno_n (i : Nat) : GNo (gN i) := fun x ρ μ r e => by cases e; exact ⟨_, rfl⟩
theorem tg_n (i : Nat) {x : Str} {pos : Pos} (hN : X.N.Nodup) (hi : X.N[i]? = some x := by rfl) (hx : Loc X.env.scope x := by first | exact .inl rfl | exact .inr rfl) (hf : X.fn x = true ∨ X.env.scope.names.lookup x = some .local := by first | exact .inl rfl | exact .inr rfl) : PGt K X [i] (.Name x pos) (gName i) (gN i) :=
  ⟨pg_name hN hi hx hf, gok_n i, gno_n i⟩
/-- a tuple's parts, to names -/
def gNs : List Nat → List D → Rho → Option Rho
  | [], [], ρ => some ρ
  | i :: is, x :: xs, ρ => gNs is xs (ρ.set i (some (.d x)))
  | _, _, _ => none
def gTp (is : List Nat) : GF := fun x ρ μ => mof ((tupOf (rd μ x)).bind fun xs => gNs is xs ρ) μ
structure PGn (K : PySem.W.Frag) (X : Cx) (ts : List Expr) (t : TGs) (is : List Nat) : Prop where
  pe : PGs X ts t
  ok : ∀ (w : Wd) (σ : L2.St) (ρ : Rho) (xs : List D) (vs : List V) (ρ' : Rho), EnvOk K w σ ρ → Paired (w.t K) (xs.map T.d) vs → gNs is xs ρ = some ρ' → ∀ Q : L2.St → Hp → Prop, (∀ σ', EnvOk K w σ' ρ' → Keeps is σ σ' → Q σ' w.H) → t vs σ w.H Q
theorem gn_nil : PGn K X [] gNil [] := ⟨pgs_nil, fun w σ ρ xs vs ρ' ev hx e Q q => by
  cases xs with
  | nil => cases hx; cases e; exact ⟨rfl, q _ ev (Keeps.refl _ _)⟩
  | cons => cases e⟩
theorem gn_cons (i : Nat) {x : Str} {pos : Pos} {ts : List Expr} {t : TGs} {is : List Nat} (hr : PGn K X ts t is) (hN : X.N.Nodup) (hi : X.N[i]? = some x := by rfl) (hx : Loc X.env.scope x := by first | exact .inl rfl | exact .inr rfl) (hf : X.fn x = true ∨ X.env.scope.names.lookup x = some .local := by first | exact .inl rfl | exact .inr rfl) :
    PGn K X (.Name x pos :: ts) (gCons (gName i) t) (i :: is) := ⟨pgs_cons (pg_name hN hi hx hf) hr.pe, fun w σ ρ xs vs ρ' ev hxs e Q q => by
  cases xs with
  | nil => cases e
  | cons y ys =>
    cases hxs with
    | cons h1 h2 => exact ⟨_, _, rfl, hr.ok w _ _ ys _ ρ' (env_set ev i h1) h2 e Q fun σ' h k => q σ' h ((keeps_set σ i _).trans k)⟩⟩
theorem gNs_len : ∀ {is : List Nat} {xs : List D} {ρ ρ' : Rho}, gNs is xs ρ = some ρ' → xs.length = is.length
  | [], [], _, _, _ => rfl
  | _ :: is, _ :: xs, _, _, e => by rw [List.length_cons, List.length_cons, gNs_len (is := is) (xs := xs) e]
  | [], _ :: _, _, _, e => by cases e
  | _ :: _, [], _, _, e => by cases e
theorem tg_t {es : List Expr} {k : Nat} {t : TGs} {is : List Nat} {pos : Pos} (h : PGn K X es t is) (hc : X.calm = true := by rfl) (hK : X.K = K := by rfl) (hn : (assignEach es X.env).length = is.length := by rfl) (hst : (assignEach es X.env).findIdx? (·.1) = none := by rfl) : PGt K X is (.Tuple es k pos) (gTup K is.length t) (gTp is) := by
  subst hK
  refine ⟨pg_tup hc h.pe hn hst, fun w σ ρ x v ρ' ev s hx e Q q => ?_, fun x ρ μ r e => ?_⟩
  · have e : mof ((tupOf (rd w.μ x)).bind fun xs => gNs is xs ρ) w.μ = some (.ok ρ' w.μ) := e
    unfold mof at e
    cases hb : (tupOf (rd w.μ x)).bind fun xs => gNs is xs ρ with
    | none => rw [hb] at e; cases e
    | some ρ2 =>
      rw [hb] at e
      cases e
      obtain ⟨xs, h1, h2⟩ := Option.bind_eq_some_iff.mp hb
      obtain ⟨a, vs, h3, h4, h5⟩ := tup_ok s (rd_ok s hx) h1
      exact ⟨a, vs, h3, .of h4, by rw [← pd_len h5, List.length_map, gNs_len h2], h.ok w σ ρ xs vs ρ' ev h5 h2 Q q⟩
  · have e : mof ((tupOf (rd μ x)).bind fun xs => gNs is xs ρ) μ = some r := e
    unfold mof at e
    split at e
    · cases e
    · cases e; exact ⟨_, rfl⟩
end
end Fm
set_option Elab.async false
set_option linter.all false
set_option maxRecDepth 100000
namespace Fm
open PySem L2 PySem.Spec PyProof.Rows
section
variable {X : Cx} {E : XK} {K : PySem.W.Frag}

/-! ### a cell is written -/
theorem wr_ok {w : Wd} (s : StOk K w) {n : Nat} {a : Addr} {c c' : Cell} {o : HO} (hA : w.A[n]? = some a) (hc : w.μ[n]? = some c) (hl : c.live = true) (hl' : c'.live = true) (hc' : CellOk K { w with H := upd w.H a o } a c') :
    StOk K { w with H := upd w.H a o, μ := w.μ.set n c' } ∧ Ext w { w with H := upd w.H a o, μ := w.μ.set n c' } := by
  obtain ⟨hF, oh, hH⟩ := (s.cell n a c hA hc).nn hl
  have hlt : n < w.μ.length := (List.getElem?_eq_some_iff.mp hc).1
  have inj : ∀ m, w.A[m]? = some a → m = n := fun m hm => by
    obtain ⟨h1, e1⟩ := List.getElem?_eq_some_iff.mp hm
    obtain ⟨h2, e2⟩ := List.getElem?_eq_some_iff.mp hA
    exact (List.getElem_inj s.nd).mp (e1.trans e2.symm)
  refine ⟨⟨fun b o' e => ?_, ?_, s.nd, fun b hb => ?_, fun m b c2 h1 h2 => ?_⟩, ⟨Same.refl _, List.prefix_refl _, fun b h => ?_, fun b o' h l => ?_, fun b h _ _ => h, fun b l h => ?_, fun b h _ => h⟩⟩
  · show upd w.H a o b = some o'
    rw [upd_ne (show b ≠ a from fun z => by rw [z, hF] at e; cases e)]
    exact s.sub b o' e
  · show w.A.length = (w.μ.set n c').length
    rw [List.length_set]
    exact s.len
  · show upd w.H a o b ≠ none
    by_cases e : b = a
    · rw [e, upd_same]; simp
    · rw [upd_ne e]; exact s.tr b hb
  · have h2 : (w.μ.set n c')[m]? = some c2 := h2
    by_cases e : n = m
    · subst e
      rw [List.getElem?_set_self hlt] at h2
      cases h2
      have h1 : w.A[n]? = some b := h1
      rw [hA] at h1
      cases h1
      exact hc'.rep (w' := { w with H := upd w.H a o, μ := w.μ.set n c' }) (Same.refl _) (List.prefix_refl _) (fun l => hF) fun _ => rfl
    · rw [List.getElem?_set_ne e] at h2
      refine (s.cell m b c2 h1 h2).rep (Same.refl _) (List.prefix_refl _) (fun l => ((s.cell m b c2 h1 h2).nn l).1) fun l => ?_
      show upd w.H a o b = w.H b
      exact upd_ne fun z => e (inj m (by rw [← z]; exact h1)).symm
  · have h : upd w.H a o b = none := h
    by_cases e : b = a
    · rw [e, upd_same] at h; cases h
    · rw [upd_ne e] at h; exact h
  · show upd w.H a o b = some o'
    rw [upd_ne (show b ≠ a from fun z => l ⟨n, c, by rw [z]; exact hA, hc, hl⟩)]
    exact h
  · obtain ⟨m, c2, h1, h2, h3⟩ := l
    have h2 : (w.μ.set n c')[m]? = some c2 := h2
    by_cases e : n = m
    · subst e
      exact ⟨n, c, h1, hc, hl⟩
    · rw [List.getElem?_set_ne e] at h2
      exact ⟨m, c2, h1, h2, h3⟩
theorem CellOk.lst_upd {w : Wd} {a : Addr} {xs : List T} {vs : List V} (hF : w.F a = none) (h : Paired (w.t K) xs vs) : CellOk K { w with H := upd w.H a (.lst vs) } a (.lst xs) := ⟨hF, vs, upd_same, h⟩
theorem CellOk.dct_upd {w : Wd} {a : Addr} {xs : List (Key × T)} {vs : List (Key × V)} (hF : w.F a = none) (h : Paired (fun p q => p.1 = q.1 ∧ w.t K p.2 q.2) xs vs) : CellOk K { w with H := upd w.H a (.dK vs) } a (.dct xs) := ⟨hF, vs, upd_same, h⟩

/-! ### methods of what is built in -/
abbrev RMt := V → List V → Hp → VK → Prop
def MtA (K : PySem.W.Frag) (r : RMt) (g : T → List T → M T) : Prop := ∀ (E : XK) (w : Wd) (x : T) (xs : List T) (v : V) (vs : List V), w.t K x v → Paired (w.t K) xs vs → At K E w (fun Q => r v vs w.H Q) (g x xs) (RV K)
def MtY (K : PySem.W.Frag) (ty : String) (y : Mu → T → Bool) : Prop := ∀ (w : Wd) (x : T) (v : V), StOk K w → w.t K x v → y w.μ x = true → tyV K ty v w.H
structure MI (K : PySem.W.Frag) (X : Cx) (ty : String) (name : Str) (id : String) (r : RMt) (y : Mu → T → Bool) (g : T → List T → M T) : Prop where
  pa : PlainAttrs ty
  slot : Slot ty name id
  hty : typeOf (.builtin id) = pure (.type "method_descriptor")
  mt : MtR X id r
  ok : MtA K r g
  y : MtY K ty y
def eBM (y : Mu → T → Bool) (g : T → List T → M T) (fo : EF) (fa : AF) : EF := fun ρ => mbind (fo ρ) fun x μ => if y μ x = true then mbind (fa ρ) (fun xs => g x xs) μ else none
theorem eok_BM {ty : String} {r : RMt} {y : Mu → T → Bool} {g : T → List T → M T} {to : TE} {t : TA} {fo : EF} {fa : AF} (hg : MtA K r g) (hy : MtY K ty y) (ho : EOk K E to fo) (ha : LOk K E t fa) : EOk K E (tBM K ty r to t) (eBM y g fo fa) := fun w σ ρ ev s rr er Q q1 q2 => by
  show to σ w.H fun x H1 => tyV K ty x H1 ∧ t σ H1 fun xs H2 => r x xs H2 Q
  refine At.use (ho w σ ρ ev) s er _ (fun x w1 v _ er1 e1 s1 hx => ?_) q2
  have er1 : (if y w1.μ x = true then mbind (fa ρ) (fun xs => g x xs) w1.μ else none) = some rr := er1
  split at er1
  · rename_i hyy
    refine ⟨hy w1 x v s1 hx hyy, At.use (ha w1 σ ρ (ev.ext e1)) s1 er1 _ (fun xs w2 vs _ er2 e2 s2 hxs => ?_) fun a w' cls d z e' => q2 a w' cls d z (e1.trans e')⟩
    exact hg E w2 x xs v vs (e2.t hx) hxs s2 rr er2 Q (fun a w' b z e' => q1 a w' b z ((e1.trans e2).trans e')) fun a w' cls d z e' => q2 a w' cls d z ((e1.trans e2).trans e')
  · cases er1
theorem eok_BM0 {ty : String} {r : RMt} {y : Mu → T → Bool} {g : T → List T → M T} {to : TE} {fo : EF} (hg : MtA K r g) (hy : MtY K ty y) (ho : EOk K E to fo) : EOk K E (tBM0 K ty r to) (eBM y g fo aNil) := fun w σ ρ ev s rr er Q q1 q2 => by
  show to σ w.H fun x H1 => tyV K ty x H1 ∧ r x [] H1 Q
  refine At.use (ho w σ ρ ev) s er _ (fun x w1 v _ er1 e1 s1 hx => ?_) q2
  have er1 : (if y w1.μ x = true then g x [] w1.μ else none) = some rr := er1
  split at er1
  · rename_i hyy
    refine ⟨hy w1 x v s1 hx hyy, ?_⟩
    exact hg E w1 x [] v [] hx .nil s1 rr er1 Q (fun a w' b z e' => q1 a w' b z (e1.trans e')) fun a w' cls d z e' => q2 a w' cls d z (e1.trans e')
  · cases er1
section
variable {o e : Expr} {es : List Expr} {to : TE} {t : TA} {fo : EF} {fa : AF} {name : Str} {apos cpos : Pos} {ty id : String} {r : RMt} {y : Mu → T → Bool} {g : T → List T → M T}
theorem pd_BM (m : MI K X ty name id r y g) (ho : PD K X E o to fo) (ha : PL K X E (e :: es) t fa) (hK : X.K = K := by rfl) (hbase : attributeBase o name X.env (eval o X.env) = eval o X.env := by rfl)
    (hfew : ((backTo cpos (starEach (e :: es) X.env)).all (fun x => !x.1) && (backToKw cpos (keywordEach [] X.env)).all (fun x => x.1.isSome)
      && decide ((e :: es).length + ([] : List Keyword).length + (if ([] : List Keyword).isEmpty then 0 else 1) < 30)) = true := by rfl)
    (hline : (apos.endLine == cpos.line) = true := by rfl) (hs : starEach (e :: es) X.env = (false, eval e X.env) :: starEach es X.env := by rfl) (hplain : (backTo cpos (starEach es X.env)).any (·.1) = false := by rfl) :
    PD K X E (.Call (.Attribute o name apos) (e :: es) [] cpos) (tBM K ty r to t) (eBM y g fo fa) := by
  subst hK
  exact ⟨pe_bm m.pa m.slot m.hty m.mt ho.pe ha.pe hbase hfew hline hs hplain, eok_BM m.ok m.y ho.ok ha.ok⟩
theorem pd_BM0 (m : MI K X ty name id r y g) (ho : PD K X E o to fo) (hK : X.K = K := by rfl) (hbase : attributeBase o name X.env (eval o X.env) = eval o X.env := by rfl) (hline : (apos.endLine == cpos.line) = true := by rfl) :
    PD K X E (.Call (.Attribute o name apos) [] [] cpos) (tBM0 K ty r to) (eBM y g fo aNil) := by
  subst hK
  exact ⟨pe_bm0 m.pa m.slot m.hty m.mt ho.pe hbase hline, eok_BM0 m.ok m.y ho.ok⟩
end
/-- a list that is a cell -/
def lstC (μ : Mu) : T → Option (Nat × List T)
  | .p n => match μ[n]? with
    | some (.lst xs) => some (n, xs)
    | _ => none
  | _ => none
def dctC (μ : Mu) : T → Option (Nat × List (Key × T))
  | .p n => match μ[n]? with
    | some (.dct xs) => some (n, xs)
    | _ => none
  | _ => none
theorem lstC_ok {w : Wd} (s : StOk K w) {x : T} {v : V} {n : Nat} {xs : List T} (h : w.t K x v) (e : lstC w.μ x = some (n, xs)) : ∃ a vs, v = .ref a ∧ w.A[n]? = some a ∧ w.μ[n]? = some (.lst xs) ∧ w.F a = none ∧ w.H a = some (.lst vs) ∧ Paired (w.t K) xs vs := by
  unfold lstC at e
  split at e
  · rename_i n'
    split at e
    · rename_i ys hy
      cases e
      obtain ⟨a, h1, h2⟩ := h
      obtain ⟨hF, vs, q1, q2⟩ := s.cell _ a _ h1 hy
      exact ⟨a, vs, h2, h1, hy, hF, q1, q2⟩
    · cases e
  · cases e
theorem dctC_ok {w : Wd} (s : StOk K w) {x : T} {v : V} {n : Nat} {xs : List (Key × T)} (h : w.t K x v) (e : dctC w.μ x = some (n, xs)) : ∃ a vs, v = .ref a ∧ w.A[n]? = some a ∧ w.μ[n]? = some (.dct xs) ∧ w.F a = none ∧ w.H a = some (.dK vs) ∧ Paired (fun p q => p.1 = q.1 ∧ w.t K p.2 q.2) xs vs := by
  unfold dctC at e
  split at e
  · rename_i n'
    split at e
    · rename_i ys hy
      cases e
      obtain ⟨a, h1, h2⟩ := h
      obtain ⟨hF, vs, q1, q2⟩ := s.cell _ a _ h1 hy
      exact ⟨a, vs, h2, h1, hy, hF, q1, q2⟩
    · cases e
  · cases e
def yLst (μ : Mu) (x : T) : Bool := (lstC μ x).isSome
theorem mty_lst : MtY K "list" yLst := fun w x v s hx e => by
  unfold yLst at e
  obtain ⟨⟨n, xs⟩, h⟩ := Option.isSome_iff_exists.mp e
  obtain ⟨a, vs, h1, _, _, _, h2, _⟩ := lstC_ok s hx h
  rw [h1]
  exact .inl ⟨rfl, vs, .of h2⟩
def gApp (x : T) (xs : List T) (μ : Mu) : Option (Rs T) := match xs with
  | [y] => match lstC μ x with
    | some (n, ys) => if ys.length < SL then some (.ok (.d .non) (μ.set n (.lst (ys ++ [y])))) else none
    | none => none
  | _ => none
theorem mta_app : MtA K rAppend gApp := fun E w x xs v vs hx hxs s r e Q q1 _ => by
  unfold gApp at e
  split at e
  · rename_i y
    split at e
    · rename_i n ys hl
      split at e
      · rename_i hlt
        cases e
        obtain ⟨u, rfl, hu⟩ := one_of hxs
        obtain ⟨a, zs, h1, h2, h3, h4, h5, h6⟩ := lstC_ok s hx hl
        refine ⟨a, zs, u, h1, rfl, h5, by rw [← pd_len h6, sizeLine_eq]; exact hlt, ?_⟩
        obtain ⟨k1, k2⟩ := wr_ok s h2 h3 rfl (c' := .lst (ys ++ [y])) rfl (CellOk.lst_upd h4 (pd_app h6 (.cons hu .nil)))
        exact q1 (.d .non) _ .non rfl k2 k1 rfl
      · cases e
    · cases e
  · cases e
theorem mi_append : MI K X "list" "append" "list.append" rAppend yLst gApp := ⟨PySem.F.plainAttrs_list, PySem.F.slot_list_append, PySem.F.type_list_append, mt_append, mta_app, mty_lst⟩
def gPop (x : T) (xs : List T) (μ : Mu) : Option (Rs T) := match xs with
  | [] => match lstC μ x with
    | some (n, ys) => match ys[ys.length - 1]? with
      | some y => some (.ok (rd μ y) (μ.set n (.lst ys.dropLast)))
      | none => none
    | none => none
  | _ => none
theorem pd_dropLast {α β : Type} {R : α → β → Prop} {l : List α} {m : List β} (h : Paired R l m) : Paired R l.dropLast m.dropLast := by
  rw [List.dropLast_eq_take, List.dropLast_eq_take, pd_len h]
  exact pd_take _ h
theorem mta_pop : MtA K rPop gPop := fun E w x xs v vs hx hxs s r e Q q1 _ => by
  unfold gPop at e
  split at e
  · split at e
    · rename_i n ys hl
      split at e
      · rename_i y hy
        cases e
        cases hxs
        obtain ⟨a, zs, h1, h2, h3, h4, h5, h6⟩ := lstC_ok s hx hl
        obtain ⟨u, h7, h8⟩ := pd_get h6 hy
        refine ⟨a, zs, u, h1, rfl, h5, by rw [← pd_len h6]; exact h7, ?_⟩
        obtain ⟨k1, k2⟩ := wr_ok s h2 h3 rfl (c' := .lst ys.dropLast) rfl (CellOk.lst_upd h4 (pd_dropLast h6))
        exact q1 _ _ u rfl k2 k1 (rd_ok s h8)
      · cases e
    · cases e
  · cases e
theorem mi_pop : MI K X "list" "pop" "list.pop" rPop yLst gPop := ⟨PySem.F.plainAttrs_list, PySem.F.slot_list_pop, PySem.F.type_list_pop, mt_pop, mta_pop, mty_lst⟩
/-- a list that is tracked -/
def lstTr (μ : Mu) (x : T) : Option (List T) := match x with
  | .d (.kl _) => none
  | x => lstOf μ x
theorem lstTr_ok {w : Wd} (s : StOk K w) {x : T} {v : V} {xs : List T} (h : w.t K x v) (e : lstTr w.μ x = some xs) : ∃ a vs, v = .ref a ∧ w.H a = some (.lst vs) ∧ Paired (w.t K) xs vs := by
  cases x with
  | d d =>
    cases d with
    | lst ds =>
      cases e
      obtain ⟨a, vs, h1, h2, h3⟩ := h
      exact ⟨a, vs, h1, s.sub _ _ h2, d_paired h3⟩
    | _ => cases e
  | p n =>
    obtain ⟨a, h1, h2⟩ := h
    have e : (match w.μ[n]? with | some (.lst xs) => some xs | _ => none) = some xs := e
    split at e
    · rename_i ys hy
      cases e
      obtain ⟨_, vs, q1, q2⟩ := s.cell n a _ h1 hy
      exact ⟨a, vs, h2, q1, q2⟩
    · cases e
def gExt (x : T) (xs : List T) (μ : Mu) : Option (Rs T) := match xs with
  | [y] => match lstC μ x, lstTr μ (rd μ y) with
    | some (n, ys), some zs => if ys.length + zs.length ≤ SL then some (.ok (.d .non) (μ.set n (.lst (ys ++ zs)))) else none
    | _, _ => none
  | _ => none
theorem mta_ext : MtA K rExtend gExt := fun E w x xs v vs hx hxs s r e Q q1 _ => by
  unfold gExt at e
  split at e
  · rename_i y
    split at e
    · rename_i n ys zs hl hz
      split at e
      · rename_i hlt
        cases e
        obtain ⟨u, rfl, hu⟩ := one_of hxs
        obtain ⟨a, us, h1, h2, h3, h4, h5, h6⟩ := lstC_ok s hx hl
        obtain ⟨b, ws, g1, g2, g3⟩ := lstTr_ok s (rd_ok s hu) hz
        refine ⟨a, b, us, ws, h1, by rw [g1], h5, g2, by rw [← pd_len h6, ← pd_len g3]; exact le_SL hlt, ?_⟩
        obtain ⟨k1, k2⟩ := wr_ok s h2 h3 rfl (c' := .lst (ys ++ zs)) rfl (CellOk.lst_upd h4 (pd_app h6 g3))
        exact q1 (.d .non) _ .non rfl k2 k1 rfl
      · cases e
    · cases e
  · cases e
theorem mi_extend : MI K X "list" "extend" "list.extend" rExtend yLst gExt := ⟨PySem.F.plainAttrs_list, PySem.F.slot_list_extend, PySem.F.type_list_extend, mt_extend, mta_ext, mty_lst⟩
/-- sep.join(xs) of texts -/
def yStr (_ : Mu) (x : T) : Bool := match x with
  | .d (.str _) => true
  | _ => false
theorem mty_str : MtY K "str" yStr := fun w x v s hx e => by
  unfold yStr at e
  split at e
  · rename_i z
    rw [show v = .str z from hx]
    rfl
  · cases e
def gJoin (x : T) (xs : List T) (μ : Mu) : Option (Rs T) := match x, xs with
  | .d (.str a), [y] => match (lstOf μ (rd μ y)).bind strsOf with
    | some ys => if (ys.map (·.length)).sum + ys.length * a.length ≤ 16777216 then some (.ok (.d (.str (Txt.join a ys))) μ) else none
    | none => none
  | _, _ => none
def rJoin (K : PySem.W.Frag) : RMt := fun x xs H Q => ∃ a p, ∃ ys : List Str, x = .str a ∧ xs = [.ref p] ∧ (SqL K H p (ys.map V.str) ∨ SqT K H p (ys.map V.str)) ∧
    (ys.map (·.length)).sum + ys.length * a.length ≤ 16777216 ∧ Q (.str (Txt.join a ys)) H
theorem mta_join : MtA K (rJoin K) gJoin := fun E w x xs v vs hx hxs s r e Q q1 _ => by
  unfold gJoin at e
  split at e
  · rename_i a y
    split at e
    · rename_i ys hy
      split at e
      · rename_i hz
        cases e
        obtain ⟨u, rfl, hu⟩ := one_of hxs
        obtain ⟨zs, h1, h2⟩ := Option.bind_eq_some_iff.mp hy
        obtain ⟨p, us, h3, h4, h5⟩ := lst_ok s (rd_ok s hu) h1
        refine ⟨a, p, ys, hx, by rw [h3], .inl (by rw [← strs_ok h5 h2]; exact h4), hz, ?_⟩
        exact q1 _ w (.str (Txt.join a ys)) rfl (Ext.refl w) s rfl
      · cases e
    · cases e
  · cases e
theorem mi_join' (hK : X.K = K := by rfl) : MI K X "str" "join" "str.join" (rJoin K) yStr gJoin := by
  subst hK
  exact ⟨F.plainAttrs_str, F.slot_str_join, F.type_str_join, mt_join, mta_join, mty_str⟩

/-! ### comprehensions -/
/-- no error leaves a comprehension's block -/
def noex {α : Type} (f : M α) : M α := fun μ => match f μ with
  | some (.ok a μ') => some (.ok a μ')
  | _ => none
theorem noex_some {α : Type} {f : M α} {μ : Mu} {r : Rs α} (h : noex f μ = some r) : ∃ a μ', r = .ok a μ' ∧ f μ = some (.ok a μ') := by
  unfold noex at h
  split at h
  · rename_i a μ' hf
    cases h
    exact ⟨a, μ', rfl, hf⟩
  · cases h
def wipeR (ρ : Rho) : List Nat → Rho
  | [] => ρ
  | v :: vs => (wipeR ρ vs).set v none
theorem wipeR_some {ρ : Rho} {i : Nat} {x : T} : ∀ {vs : List Nat}, (wipeR ρ vs)[i]? = some (some x) → ρ[i]? = some (some x) ∧ i ∉ vs
  | [], h => ⟨h, by simp⟩
  | v :: vs, h => by
    unfold wipeR at h
    by_cases hi : v = i
    · subst hi
      by_cases hv : v < (wipeR ρ vs).length
      · rw [List.getElem?_set_self hv] at h; cases h
      · rw [List.getElem?_eq_none (by simpa using hv)] at h; cases h
    · rw [List.getElem?_set_ne hi] at h
      obtain ⟨h1, h2⟩ := wipeR_some h
      exact ⟨h1, by simp only [List.mem_cons, not_or]; exact ⟨fun e => hi e.symm, h2⟩⟩
theorem wipeR_length (ρ : Rho) : ∀ vs : List Nat, (wipeR ρ vs).length = ρ.length
  | [] => rfl
  | v :: vs => by unfold wipeR; rw [List.length_set, wipeR_length ρ vs]
theorem env_wipe {w : Wd} {σ : L2.St} {ρ : Rho} (h : EnvOk K w σ ρ) (vs : List Nat) : EnvOk K w (wipe σ vs) (wipeR ρ vs) := ⟨by rw [wipe_length, wipeR_length]; exact h.1, fun i x hx => by
  obtain ⟨h1, h2⟩ := wipeR_some hx
  obtain ⟨v, h3, h4⟩ := h.2 i x h1
  exact ⟨v, by rw [wipe_out h2]; exact h3, h4⟩⟩
theorem wipe_in {σ : L2.St} {i : Nat} : ∀ {vs : List Nat}, i ∈ vs → i < σ.length → (wipe σ vs)[i]? = some none
  | v :: vs, h, hl => by
    unfold wipe
    by_cases e : v = i
    · subst e
      rw [List.getElem?_set_self (by rw [wipe_length]; exact hl)]
    · rw [List.getElem?_set_ne e]
      exact wipe_in ((List.mem_cons.mp h).resolve_left fun z => e z.symm) hl
theorem wipe_keeps {σ σ2 : L2.St} {is vs : List Nat} (h : Keeps is (wipe σ vs) σ2) (hs : ∀ i ∈ is, i ∈ vs) : wipe σ2 vs = wipe σ vs := by
  have hl : σ2.length = σ.length := by rw [h.1, wipe_length]
  refine List.ext_getElem? fun j => ?_
  by_cases hj : j ∈ vs
  · by_cases hlt : j < σ.length
    · rw [wipe_in hj (by omega), wipe_in hj hlt]
    · rw [List.getElem?_eq_none (by rw [wipe_length]; omega), List.getElem?_eq_none (by rw [wipe_length]; omega)]
  · rw [wipe_out hj, h.2 j fun q => hj (hs j q)]
def compL (g : GF) (tt : TF) (el : EF) (ρ : Rho) : List T → List T → M Cell
  | [], acc => mret (.lst acc)
  | x :: r, acc => mbind (noex (g x ρ)) fun ρ1 => mbind (noex (tt ρ1)) fun b => if b = true then mbind (noex (el ρ1)) fun y => compL g tt el ρ r (acc ++ [y]) else compL g tt el ρ r acc
def cComp (vs : List Nat) (it : AF) (g : GF) (tt : TF) (el : EF) : CF := fun ρ => mbind (it ρ) fun xs μ => if xs.length ≤ SL then compL g tt el (wipeR ρ vs) xs [] μ else none
/-- the turns of a comprehension -/
theorem at_noex {α β : Type} {w : Wd} {t : (β → Hp → Prop) → Prop} {f : M α} {R : RT α β} (h : At K E0 w t f R) : At K E w t (noex f) R := fun s r e Q q1 _ => by
  obtain ⟨a, μ', rfl, hf⟩ := noex_some e
  exact h s _ hf Q q1 fun _ _ _ _ z => by cases z
def bTrue : TF := fun _ => mret true
theorem bok_true : BOk K E tYes bTrue := fun w σ ρ _ => At.ret (R := RB) rfl
/-- an object outside of the cells and of what is frozen is written -/
theorem out_ok {w : Wd} (s : StOk K w) {p : Addr} {o : HO} (hA : p ∉ w.A) (hF : w.F p = none) : StOk K { w with H := upd w.H p o } := by
  refine ⟨fun b o' e => ?_, s.len, s.nd, fun b hb => ?_, fun n b c h1 h2 => ?_⟩
  · show upd w.H p o b = some o'
    rw [upd_ne (show b ≠ p from fun z => by rw [z, hF] at e; cases e)]
    exact s.sub b o' e
  · show upd w.H p o b ≠ none
    rw [upd_ne (show b ≠ p from fun z => hA (by rw [← z]; exact hb))]
    exact s.tr b hb
  · refine (s.cell n b c h1 h2).rep (Same.refl _) (List.prefix_refl _) (fun l => ((s.cell n b c h1 h2).nn l).1) fun l => ?_
    show upd w.H p o b = w.H b
    exact upd_ne fun z => hA (by rw [← z]; exact List.mem_of_getElem? h1)
theorem out_ext {w0 w : Wd} (e : Ext w0 w) {p : Addr} {o : HO} (hp : w0.H p = none) : Ext w0 { w with H := upd w.H p o } where
  sub := e.sub
  pre := e.pre
  dom := fun b h => by
    have h : upd w.H p o b = none := h
    by_cases q : b = p
    · rw [q]; exact hp
    · rw [upd_ne q] at h; exact e.dom b h
  keep := fun b o' h l => by
    show upd w.H p o b = some o'
    rw [upd_ne (ne_of_none h hp)]
    exact e.keep b o' h l
  capt := e.capt
  lv := e.lv
  new := e.new
/-- the turns of a comprehension, from the walk's beginning on -/
theorem comp_core {vs is : List Nat} {g : TG} {tt : TT} {te : TE} {gf : GF} {tf : TF} {el : EF} (hg : GOk K is g gf) (hgn : GNo gf) (ht : BOk K E0 tt tf) (he : EOk K E0 te el) (hs : ∀ i ∈ is, i ∈ vs)
    {w' : Wd} {σ : L2.St} {ρ : Rho} {r : Rs Cell} {xs : List T} {J : It} {G : Hp → Prop} {Y : Nat → Hp → V → Hp → Prop} (ev : EnvOk K w' σ ρ) (s1 : StOk K w') (wk : Walk J xs.length G Y) (yl : Yields K w' xs G Y) (hxl : xs.length ≤ SL) (er : compL gf tf el (wipeR ρ vs) xs [] w'.μ = some r)
    {D : Addr} (hD : w'.H D = none) {Qd : Hp → Prop} (q1 : ∀ acc us w1, r = .ok (.lst acc) w1.μ → Ext w' w1 → StOk K w1 → w1.H D = some (.lst us) → Paired (w1.t K) acc us → D ∉ w1.A → w1.F D = none → Qd w1.H)
    (q2 : ∀ x w1 cls d, r = .ex x w1.μ → Ext w' w1 → StOk K w1 → ExnOk K w1 x cls d → E cls d w1.H) :
    ∃ W : Nat → Nat → Hp → Prop, (∃ m, W 0 m (upd w'.H D (.lst []))) ∧ ∀ i m H, W i m H →
      (J.stop i H ∧ Qd H) ∨ (J.go i H ∧ ∃ Nx : Hp → Prop, (∀ H', Nx H' → ∃ m', m' < m ∧ W (i + 1) m' H') ∧ ∀ x H', J.yld i H x H' → g x (wipe σ vs) H' fun σ2 H2 => wipe σ2 vs = wipe σ vs ∧ tt σ2 H2 fun b H3 =>
        if b = true then te σ2 H3 fun y H4 => ∃ acc, H4 D = some (.lst acc) ∧ acc.length < sizeLine ∧ Nx (upd H4 D (.lst (acc ++ [y]))) else Nx H3) := by
  obtain ⟨n1, n2, n3, n4⟩ := new_ok s1 (o := .lst []) hD
  refine lc_it wk (fun i H => ∃ (w1 : Wd) (acc : List T) (us : List V), w1.H = H ∧ Ext w' w1 ∧ StOk K w1 ∧ w1.H D = some (.lst us) ∧ Paired (w1.t K) acc us ∧ acc.length ≤ i ∧ compL gf tf el (wipeR ρ vs) (xs.drop i) acc w1.μ = some r ∧ D ∉ w1.A ∧ w1.F D = none) ?_ ?_ ?_ ?_
  · exact ⟨_, [], [], rfl, n2, n1, upd_same, .nil, Nat.le_refl _, er, n3, n4⟩
  · rintro i H _ ⟨w1, acc, us, rfl, h1, h2, _⟩
    exact (yl w1 h1 h2).1
  · rintro i x H H' hlt ⟨w1, acc, us, rfl, h1, h2, h3, h4, h5, h6, h7, h8⟩ y
    obtain ⟨w2, t, rfl, hμ, e2, s2, hx, hr⟩ := (yl w1 h1 h2).2 i x H' hlt y
    have hdrop : xs.drop i = t :: xs.drop (i + 1) := by
      obtain ⟨hl, e⟩ := List.getElem?_eq_some_iff.mp hx
      rw [List.drop_eq_getElem_cons hl, e]
    rw [hdrop, ← hμ] at h6
    have D2 : w2.H D = some (.lst us) := e2.keep D _ h3 fun ⟨n, c, k, _⟩ => h7 (List.mem_of_getElem? k)
    have A2 : D ∉ w2.A := fun k => h7 (e2.new D k (by rw [h3]; simp))
    have F2 : w2.F D = none := e2.capt D h8 (by rw [h3]; simp) fun ⟨n, c, k, _⟩ => h7 (List.mem_of_getElem? k)
    have h6 : mbind (noex (gf t (wipeR ρ vs))) (fun ρ1 => mbind (noex (tf ρ1)) fun b => if b = true then mbind (noex (el ρ1)) fun y => compL gf tf el (wipeR ρ vs) (xs.drop (i + 1)) (acc ++ [y]) else compL gf tf el (wipeR ρ vs) (xs.drop (i + 1)) acc) w2.μ = some r := h6
    unfold mbind at h6
    cases hgf : noex (gf t (wipeR ρ vs)) w2.μ with
    | none => rw [hgf] at h6; cases h6
    | some rg =>
      obtain ⟨ρ1, μ', rfl, hgf2⟩ := noex_some hgf
      obtain ⟨ρ2, hρ⟩ := hgn _ _ _ _ hgf2
      cases hρ
      rw [hgf] at h6
      have ext2 : Ext w' w2 := h1.trans e2
      refine hg w2 (wipe σ vs) (wipeR ρ vs) t x ρ1 (env_wipe (ev.ext ext2) vs) s2 hr hgf2 _ fun σ2 hσ2 hk => ⟨wipe_keeps hk hs, ?_⟩
      refine At.use (at_noex (ht w2 σ2 ρ1 hσ2)) s2 h6 _ (fun b w3 b' _ h9 e3 s3 hb => ?_) fun a w' cls d z e' => q2 a w' cls d z (ext2.trans e')
      cases hb
      have D3 : w3.H D = some (.lst us) := e3.keep D _ D2 fun ⟨n, c, k, _⟩ => A2 (List.mem_of_getElem? k)
      have A3 : D ∉ w3.A := fun k => A2 (e3.new D k (by rw [D2]; simp))
      have F3 : w3.F D = none := e3.capt D F2 (by rw [D2]; simp) fun ⟨n, c, k, _⟩ => A2 (List.mem_of_getElem? k)
      cases b with
      | false =>
        exact ⟨w3, acc, us, rfl, h1.trans (e2.trans e3), s3, D3, pd_imp (fun _ _ q => (e2.trans e3).t q) h4, Nat.le_succ_of_le h5, h9, A3, F3⟩
      | true =>
        refine At.use (at_noex (he w3 σ2 ρ1 (hσ2.ext e3))) s3 h9 _ (fun y w4 v _ h10 e4 s4 hy => ?_) fun a w' cls d z e' => q2 a w' cls d z ((ext2.trans e3).trans e')
        have D4 : w4.H D = some (.lst us) := e4.keep D _ D3 fun ⟨n, c, k, _⟩ => A3 (List.mem_of_getElem? k)
        have A4 : D ∉ w4.A := fun k => A3 (e4.new D k (by rw [D3]; simp))
        have F4 : w4.F D = none := e4.capt D F3 (by rw [D3]; simp) fun ⟨n, c, k, _⟩ => A3 (List.mem_of_getElem? k)
        refine ⟨us, D4, ?_, ?_⟩
        · rw [← pd_len h4, sizeLine_eq]
          exact Nat.lt_of_le_of_lt h5 (Nat.lt_of_lt_of_le hlt hxl)
        · have ex4 : Ext w' w4 := h1.trans (e2.trans (e3.trans e4))
          refine ⟨_, acc ++ [y], us ++ [v], rfl, out_ext (o := .lst (us ++ [v])) ex4 hD, out_ok s4 A4 F4, upd_same, ?_, ?_, h10, A4, F4⟩
          · exact pd_app (pd_imp (fun _ _ q => ((e2.trans e3).trans e4).t q) h4) (.cons hy .nil)
          · rw [List.length_append, List.length_singleton]
            omega
  · rintro H ⟨w1, acc, us, rfl, h1, h2, h3, h4, h5, h6, h7, h8⟩
    rw [List.drop_length] at h6
    cases h6
    exact q1 acc us w1 rfl h1 h2 h3 h4 h7 h8
theorem cok_comp {vs is : List Nat} {wi : TI} {g : TG} {tt : TT} {te : TE} {it : AF} {gf : GF} {tf : TF} {el : EF} (hi : IOk K E wi it) (hg : GOk K is g gf) (hgn : GNo gf) (ht : BOk K E0 tt tf) (he : EOk K E0 te el) (hs : ∀ i ∈ is, i ∈ vs) :
    COk K E (tLc wi g tt te vs) (cComp vs it gf tf el) := fun w σ ρ ev s r er Q q1 q2 => by
  have er : mbind (it ρ) (fun xs μ => if xs.length ≤ SL then compL gf tf el (wipeR ρ vs) xs [] μ else none) w.μ = some r := er
  unfold mbind at er
  cases hf : it ρ w.μ with
  | none => rw [hf] at er; cases er
  | some r1 =>
    rw [hf] at er
    cases r1 with
    | ex y μ1 =>
      cases er
      exact hi w σ ρ ev s _ hf _ (fun _ _ z => by cases z) fun x w' cls d z => by cases z; exact q2 _ w' cls d rfl
    | ok xs μ1 =>
      refine hi w σ ρ ev s _ hf _ (fun xs' w' z e1 s1 J G Y wk yl => ?_) fun _ _ _ _ z => by cases z
      cases z
      intro D hD
      have er : (if xs.length ≤ SL then compL gf tf el (wipeR ρ vs) xs [] w'.μ else none) = some r := er
      split at er
      case isFalse => cases er
      rename_i hxl
      refine comp_core (E := E) hg hgn ht he hs (ev.ext e1) s1 wk yl hxl er hD (fun acc us w1 z h1 h2 h3 h4 h7 h8 => ?_) fun x w1 cls d z e' => q2 x w1 cls d z (e1.trans e')
      exact q1 (.lst acc) w1 (.ref D) z (e1.trans h1) h2 ⟨D, rfl, e1.dom D hD, h7, rfl, h8, us, h3, h4⟩
/-! ### a comprehension over a dict that a name holds: the dict is locked, only flat things of the def are seen -/
def flatO : Option T → Option T
  | some x => if (flat x).isSome = true then some x else none
  | none => none
def flatR (ρ : Rho) : Rho := ρ.map flatO
theorem flatR_some {ρ : Rho} {i : Nat} {x : T} (h : (flatR ρ)[i]? = some (some x)) : ρ[i]? = some (some x) ∧ ∃ u, flat x = some u := by
  unfold flatR at h
  rw [List.getElem?_map] at h
  obtain ⟨o, h1, h2⟩ := Option.map_eq_some_iff.mp h
  cases o with
  | none => cases h2
  | some y =>
    have h2 : (if (flat y).isSome = true then some y else none) = some x := h2
    by_cases hf : (flat y).isSome = true
    · rw [if_pos hf] at h2
      cases h2
      exact ⟨h1, Option.isSome_iff_exists.mp hf⟩
    · rw [if_neg hf] at h2
      cases h2
theorem flat_rep {F F' : Hp} {A A' : List Addr} {x : T} {u v : V} (h : flat x = some u) (r : RepT K F A x v) : RepT K F' A' x v := by
  unfold flat at h
  split at h
  · exact r
  · exact r
  · exact r
  · exact r
  · cases h
def keyT : Key → T
  | .inl i => .d (.int i)
  | .inr s => .d (.str s)
def keysD : T → Option (List Key)
  | .d (.dct kvs) => some (kvs.map (·.1))
  | _ => none
def cCompK (i : Nat) (vs : List Nat) (gf : GF) (tf : TF) (el : EF) : CF := fun ρ μ => match (slotT ρ i).bind fun x => keysD (rd μ x) with
  | some ks => if ks.length ≤ SL then match compL gf tf el (wipeR (flatR ρ) vs) (ks.map keyT) [] [] with
      | some (.ok (.lst acc) []) => (dTs [] acc).map fun ds => .ok (.lst (ds.map T.d)) μ
      | _ => none
    else none
  | none => none
theorem key_rep {w : Wd} (k : Key) : w.t K (keyT k) (kV k) := by cases k <;> rfl
mutual
theorem Rep.unlock {F : Hp} {d : Addr} {od : Obj} {ws : List (Key × V)} (h : F d = some (.frz od (.dK ws))) : ∀ {x : D} {v : V}, Rep K F x v → Rep K (upd F d (.dK ws)) x v
  | .non, v, q => q
  | .bl b, v, q => q
  | .int i, v, q => q
  | .str s, v, q => q
  | .lst ds, v, ⟨a, vs, h1, h2, h3⟩ => ⟨a, vs, h1, by rw [upd_ne (fun z => by rw [z, h] at h2; cases h2)]; exact h2, Reps.unlock h h3⟩
  | .tup ds, v, ⟨a, vs, h1, h2, h3⟩ => ⟨a, vs, h1, by rw [upd_ne (fun z => by rw [z, h] at h2; cases h2)]; exact h2, Reps.unlock h h3⟩
  | .dct kvs, v, ⟨a, vs, h1, h2, h3⟩ => ⟨a, vs, h1, by rw [upd_ne (fun z => by rw [z, h] at h2; cases h2)]; exact h2, RepK.unlock h h3⟩
  | .kl ns, v, ⟨a, h1, h2⟩ => ⟨a, h1, by
    rcases h2 with (q | ⟨o, q⟩) | q
    · exact .inl (.inl (by rw [upd_ne (fun z => by rw [z, h] at q; cases q)]; exact q))
    · exact .inl (.inr ⟨o, by rw [upd_ne (fun z => by rw [z, h] at q; cases q)]; exact q⟩)
    · exact .inr q⟩
theorem Reps.unlock {F : Hp} {d : Addr} {od : Obj} {ws : List (Key × V)} (h : F d = some (.frz od (.dK ws))) : ∀ {ds : List D} {vs : List V}, Reps K F ds vs → Reps K (upd F d (.dK ws)) ds vs
  | [], _, q => q
  | x :: ds, _, ⟨v, r, h1, h2, h3⟩ => ⟨v, r, h1, Rep.unlock h h2, Reps.unlock h h3⟩
theorem RepK.unlock {F : Hp} {d : Addr} {od : Obj} {ws : List (Key × V)} (h : F d = some (.frz od (.dK ws))) : ∀ {ds : List (Key × D)} {vs : List (Key × V)}, RepK K F ds vs → RepK K (upd F d (.dK ws)) ds vs
  | [], _, q => q
  | (k, x) :: ds, _, ⟨v, r, h1, h2, h3⟩ => ⟨v, r, h1, Rep.unlock h h2, RepK.unlock h h3⟩
end
theorem cok_compK {i : Nat} {vs is : List Nat} {g : TG} {tt : TT} {te : TE} {gf : GF} {tf : TF} {el : EF} (hg : GOk K is g gf) (hgn : GNo gf) (ht : BOk K E0 tt tf) (he : EOk K E0 te el) (hs : ∀ i ∈ is, i ∈ vs) :
    COk K E (tLockE (tLc (iKeys (tVar i)) g tt te vs)) (cCompK i vs gf tf el) := fun w σ ρ ev s r er Q q1 q2 => by
  unfold cCompK at er
  split at er
  case h_2 => cases er
  rename_i ks hks
  split at er
  case isFalse => cases er
  rename_i hkl
  split at er
  case h_2 => cases er
  rename_i acc hc
  obtain ⟨ds, hds, hr⟩ := Option.map_eq_some_iff.mp er
  obtain ⟨x0, hx0, hx1⟩ := Option.bind_eq_some_iff.mp hks
  obtain ⟨v0, hσ, hv0⟩ := ev.2 i x0 (slotT_some hx0)
  have hv1 := rd_ok s hv0
  generalize rd w.μ x0 = x1 at hx1 hv1
  unfold keysD at hx1
  split at hx1
  case h_2 => cases hx1
  rename_i kvs
  cases hx1
  obtain ⟨d, ws, rfl, hF, hrep⟩ := hv1
  have hH := s.sub d _ hF
  have hkeys : ws.map (·.1) = kvs.map (·.1) := by
    have q := RepK.paired.mp hrep
    clear hrep hF hH hks hc hkl
    induction q with
    | nil => rfl
    | cons a b ih => rw [List.map_cons, List.map_cons, ih, a.1]
  refine ⟨d, .dK ws, hH, trivial, fun od => ?_⟩
  refine ⟨.ref d, hσ, d, od, rfl, .inl ⟨ws, upd_same, fun D hD => ?_⟩⟩
  have hDd : D ≠ d := fun z => by rw [z, upd_same] at hD; cases hD
  have hD0 : w.H D = none := by rw [upd_ne hDd] at hD; exact hD
  -- the block's world
  let wb : Wd := ⟨upd w.F d (.frz od (.dK ws)), upd w.H d (.frz od (.dK ws)), [], []⟩
  have nl : ∀ b, ¬ wb.live b := fun b ⟨n, c, k, _⟩ => by simp [wb] at k
  have sb : StOk K wb := ⟨fun b o q => by
      show upd w.H d _ b = some o
      have q : upd w.F d (.frz od (.dK ws)) b = some o := q
      by_cases e : b = d
      · rw [e, upd_same] at q ⊢; exact q
      · rw [upd_ne e] at q ⊢; exact s.sub b o q, rfl, List.nodup_nil, fun b hb => by simp [wb] at hb, fun n b c k => by simp [wb] at k⟩
  have evb : EnvOk K wb σ (flatR ρ) := ⟨by rw [show (flatR ρ).length = ρ.length from List.length_map _]; exact ev.1, fun j x hx => by
    obtain ⟨h1, u, h2⟩ := flatR_some hx
    obtain ⟨v, h3, h4⟩ := ev.2 j x h1
    exact ⟨v, h3, flat_rep h2 h4⟩⟩
  have wk := walk_keys (d := d) (o := od) (kvs := ws)
  have hlen : ((kvs.map (·.1)).map keyT).length = ws.length := by rw [List.length_map, ← hkeys, List.length_map]
  rw [← hlen] at wk
  have Fbd : wb.F d = some (.frz od (.dK ws)) := upd_same
  have yl : Yields K wb ((kvs.map (·.1)).map keyT) (fun H => H d = some (.frz od (.dK ws))) (fun i H x H' => H' = H ∧ ∃ k v, ws[i]? = some (k, v) ∧ x = kV k) := fun w1 e1 s1 => ⟨s1.sub d _ (e1.sub d _ Fbd), fun j x H' hj y => by
    obtain ⟨h1, k, v, h2, h3⟩ := y
    refine ⟨w1, keyT k, h1.symm, rfl, Ext.refl _, s1, ?_, by rw [h3]; exact key_rep k⟩
    rw [List.getElem?_map, ← hkeys, List.getElem?_map, h2] <;> rfl⟩
  refine comp_core (E := E) (K := K) (w' := wb) hg hgn ht he hs evb sb wk yl (by rw [List.length_map]; exact hkl) hc hD (fun acc' us w1 z h1 h2 h3 h4 h7 h8 => ?_) fun _ _ _ _ z => by cases z
  obtain ⟨za, zm⟩ := (Rs.ok.injEq .. ▸ z : _ ∧ _)
  have za : acc = acc' := by injection za
  subst za
  have F1d : w1.F d = some (.frz od (.dK ws)) := h1.sub d _ Fbd
  refine ⟨h2.sub d _ F1d, ?_⟩
  have kp : ∀ b o, wb.H b = some o → w1.H b = some o := fun b o q => h1.keep b o q (nl b)
  have bne : ∀ (n : Nat) (b : Addr) (c : Cell), w.A[n]? = some b → w.μ[n]? = some c → c.live = true → b ≠ d := fun n b c k1 k2 k3 z => by
    have q := ((s.cell n b c k1 k2).nn k3).1
    rw [z, hF] at q
    cases q
  have sm : Same w.F (upd w1.F d (.dK ws)) := fun b o q => by
    by_cases e : b = d
    · rw [e, hF] at q; rw [e, upd_same]; exact q
    · rw [upd_ne e]; exact h1.sub b o (by show upd w.F d _ b = some o; rw [upd_ne e]; exact q)
  let w2 : Wd := ⟨upd w1.F d (.dK ws), upd w1.H d (.dK ws), w.A, w.μ⟩
  have s2 : StOk K w2 := by
    refine ⟨fun b o q => ?_, s.len, s.nd, fun b hb => ?_, fun n b c k1 k2 => ?_⟩
    · show upd w1.H d _ b = some o
      have q : upd w1.F d (.dK ws) b = some o := q
      by_cases e : b = d
      · rw [e, upd_same] at q ⊢; exact q
      · rw [upd_ne e] at q ⊢; exact h2.sub b o q
    · show upd w1.H d _ b ≠ none
      by_cases e : b = d
      · rw [e, upd_same]; simp
      · rw [upd_ne e]
        intro q
        have := h1.dom b q
        have : upd w.H d (.frz od (.dK ws)) b = none := this
        rw [upd_ne e] at this
        exact s.tr b hb this
    · refine (s.cell n b c k1 k2).rep sm (List.prefix_refl _) (fun l => ?_) fun l => ?_
      · show upd w1.F d _ b = none
        have e := bne n b c k1 k2 l
        obtain ⟨hFb, o, hHb⟩ := (s.cell n b c k1 k2).nn l
        rw [upd_ne e]
        exact h1.capt b (by show upd w.F d _ b = none; rw [upd_ne e]; exact hFb) (by show upd w.H d _ b ≠ none; rw [upd_ne e, hHb]; simp) (nl b)
      · show upd w1.H d _ b = w.H b
        have e := bne n b c k1 k2 l
        obtain ⟨hFb, o, hHb⟩ := (s.cell n b c k1 k2).nn l
        rw [upd_ne e, hHb]
        exact kp b o (by show upd w.H d _ b = some o; rw [upd_ne e]; exact hHb)
  have e2 : Ext w w2 := by
    refine ⟨sm, List.prefix_refl _, fun b q => ?_, fun b o q l => ?_, fun b q1 q2 l => ?_, fun b l _ => l, fun b hb _ => hb⟩
    · have q : upd w1.H d (.dK ws) b = none := q
      by_cases e : b = d
      · rw [e, upd_same] at q; cases q
      · rw [upd_ne e] at q
        have := h1.dom b q
        have : upd w.H d (.frz od (.dK ws)) b = none := this
        rw [upd_ne e] at this
        exact this
    · show upd w1.H d _ b = some o
      by_cases e : b = d
      · rw [e, hH] at q; rw [e, upd_same]; exact q
      · rw [upd_ne e]; exact kp b o (by show upd w.H d _ b = some o; rw [upd_ne e]; exact q)
    · show upd w1.F d _ b = none
      have e : b ≠ d := fun z => by rw [z, hF] at q1; cases q1
      rw [upd_ne e]
      exact h1.capt b (by show upd w.F d _ b = none; rw [upd_ne e]; exact q1) (by show upd w.H d _ b ≠ none; rw [upd_ne e]; exact q2) (nl b)
  have dacc : Reps K w1.F ds us := by
    have zm : w1.μ = [] := zm.symm
    exact dTs_ok h2 h4 (by rw [zm]; exact hds)
  refine q1 (.lst (ds.map T.d)) w2 (.ref D) hr.symm e2 s2 ⟨D, rfl, hD0, fun z => s.tr D z hD0, rfl, ?_, us, ?_, ?_⟩
  · show upd w1.F d _ D = none
    rw [upd_ne hDd]; exact h8
  · show upd w1.H d _ D = some (.lst us)
    rw [upd_ne hDd]; exact h3
  · exact d_paired (Reps.unlock F1d dacc)
structure PTF (K : PySem.W.Frag) (X : Cx) (E : XK) (ifs : List Expr) (t : TT) (f : TF) : Prop where
  pe : PTs X ifs t
  ok : BOk K E t f
theorem pts0 : PTF K X E [] tYes bTrue := ⟨pts_nil, bok_true⟩
theorem pts1 {c : Expr} {t : TT} {f : TF} (h : PB K X E c t f) : PTF K X E [c] t f := ⟨pts_one h.pe, h.ok⟩
/-- a block's place -/
theorem Bd.blk {k : Nat} (B : Bd X E k) (s : Shared) (H : Hp) (scope : Scope) (cenv : Env) (fp : List Addr) : Bd (X.blk s H scope cenv fp) E0 k := ⟨B.room, passL, B.calm⟩
section
variable {elt tg iter : Expr} {ifs : List Expr} {scope : Scope} {pos : Pos} {wi : TI} {g : TG} {tt : TT} {te : TE} {it : AF} {gf : GF} {tf : TF} {el : EF} {is : List Nat} {k : Nat}
/-- what a comprehension's rule asks -/
structure PLc (K : PySem.W.Frag) (X : Cx) (E : XK) (own : List (Str × Nat)) (elt tg iter : Expr) (ifs : List Expr) (scope : Scope) (wi : TI) (g : TG) (tt : TT) (te : TE) (f : CF) : Prop where
  calm : X.calm = true
  nd : X.N.Nodup
  hi : PI X tg iter wi
  blk : BlkOk X.N X.env.scope scope own
  hg : ∀ (s : Shared) (H : Hp) (C : Addr) (cl : List (Str × Addr)) (fp : List Addr), PG (X.blk s H scope (compEnvC scope cl C X.env) fp) tg g
  ht : ∀ (s : Shared) (H : Hp) (C : Addr) (cl : List (Str × Addr)) (fp : List Addr), PTs (X.blk s H scope (compEnvC scope cl C X.env) fp) ifs tt
  he : ∀ (s : Shared) (H : Hp) (C : Addr) (cl : List (Str × Addr)) (fp : List Addr), PE (X.blk s H scope (compEnvC scope cl C X.env) fp) elt te
  ok : COk K E (tLc wi g tt te (own.map (·.2))) f
theorem plc {own : List (Str × Nat)} {N : List Str} {sc : Scope} (B : Bd X E k) (nd : X.N.Nodup) (hi : PIt K X E tg iter wi it) (blk : blkC N sc scope own = true)
    (hg : ∀ (s : Shared) (H : Hp) (C : Addr) (cl : List (Str × Addr)) (fp : List Addr), PGt K (X.blk s H scope (compEnvC scope cl C X.env) fp) is tg g gf)
    (ht : ∀ (s : Shared) (H : Hp) (C : Addr) (cl : List (Str × Addr)) (fp : List Addr), Bd (X.blk s H scope (compEnvC scope cl C X.env) fp) E0 k → PTF K (X.blk s H scope (compEnvC scope cl C X.env) fp) E0 ifs tt tf)
    (he : ∀ (s : Shared) (H : Hp) (C : Addr) (cl : List (Str × Addr)) (fp : List Addr), Bd (X.blk s H scope (compEnvC scope cl C X.env) fp) E0 k → PD K (X.blk s H scope (compEnvC scope cl C X.env) fp) E0 elt te el)
    (hs : ∀ i ∈ is, i ∈ own.map (·.2) := by decide) (eN : X.N = N := by rfl) (es : X.env.scope = sc := by rfl) : PLc K X E own elt tg iter ifs scope wi g tt te (cComp (own.map (·.2)) it gf tf el) :=
  ⟨B.calm, nd, hi.pe, blkOk_by (by rw [eN, es]; exact blk), fun s H C cl fp => (hg s H C cl fp).pe, fun s H C cl fp => (ht s H C cl fp (B.blk s H scope _ fp)).pe, fun s H C cl fp => (he s H C cl fp (B.blk s H scope _ fp)).pe,
    cok_comp hi.ok (hg X.s_0 (fun _ => none) 0 [] []).ok (hg X.s_0 (fun _ => none) 0 [] []).no (ht X.s_0 (fun _ => none) 0 [] [] (B.blk _ _ _ _ _)).ok (he X.s_0 (fun _ => none) 0 [] [] (B.blk _ _ _ _ _)).ok hs⟩
theorem pc_lc {own : List (Str × Nat)} {f : CF} (h : PLc K X E own elt tg iter ifs scope wi g tt te f) (hs : ∀ x, foldedSetIterable iter X.env x = pure x := by intro _; rfl) : PCr K X E (.ListComp elt [⟨tg, iter, ifs, 0⟩] scope pos) (tLc wi g tt te (own.map (·.2))) f :=
  ⟨pe_lc h.calm h.nd h.hi h.blk h.hg h.ht h.he hs, h.ok⟩
/-- [elt for x in d], d a name that holds a dict -/
theorem pc_lcK (i : Nat) {x : Str} {xp : Pos} {own : List (Str × Nat)} {N : List Str} {sc : Scope} (B : Bd X E k) (nd : X.N.Nodup) (blk : blkC N sc scope own = true)
    (hg : ∀ (s : Shared) (H : Hp) (C : Addr) (cl : List (Str × Addr)) (fp : List Addr), PGt K (X.blk s H scope (compEnvC scope cl C X.env) fp) is tg g gf)
    (ht : ∀ (s : Shared) (H : Hp) (C : Addr) (cl : List (Str × Addr)) (fp : List Addr), Bd (X.blk s H scope (compEnvC scope cl C X.env) fp) E0 k → PTF K (X.blk s H scope (compEnvC scope cl C X.env) fp) E0 ifs tt tf)
    (he : ∀ (s : Shared) (H : Hp) (C : Addr) (cl : List (Str × Addr)) (fp : List Addr), Bd (X.blk s H scope (compEnvC scope cl C X.env) fp) E0 k → PD K (X.blk s H scope (compEnvC scope cl C X.env) fp) E0 elt te el)
    (hN : X.N[i]? = some x := by rfl) (hv : Vis X.env.scope x := by first | exact Or.inl rfl | exact Or.inr (Or.inl rfl) | exact Or.inr (Or.inr rfl)) (hd : (x == ("__debug__" : Str)) = false := by decide) (hcd : (x == ("__classdict__" : Str)) = false := by decide)
    (hs : ∀ i ∈ is, i ∈ own.map (·.2) := by decide) (hf : ∀ y, foldedSetIterable (.Name x xp) X.env y = pure y := by intro _; rfl) (eN : X.N = N := by rfl) (es : X.env.scope = sc := by rfl) :
    PCr K X E (.ListComp elt [⟨tg, .Name x xp, ifs, 0⟩] scope pos) (tLockE (tLc (iKeys (tVar i)) g tt te (own.map (·.2)))) (cCompK i (own.map (·.2)) gf tf el) :=
  ⟨pe_lock (pe_lc B.calm nd (pi_keys (pe_var hN hv hd hcd)) (blkOk_by (by rw [eN, es]; exact blk)) (fun s H C cl fp => (hg s H C cl fp).pe) (fun s H C cl fp => (ht s H C cl fp (B.blk s H scope _ fp)).pe) (fun s H C cl fp => (he s H C cl fp (B.blk s H scope _ fp)).pe) hf),
    cok_compK (hg X.s_0 (fun _ => none) 0 [] []).ok (hg X.s_0 (fun _ => none) 0 [] []).no (ht X.s_0 (fun _ => none) 0 [] [] (B.blk _ _ _ _ _)).ok (he X.s_0 (fun _ => none) 0 [] [] (B.blk _ _ _ _ _)).ok hs⟩
end
end
end Fm
set_option Elab.async false
set_option linter.all false
set_option maxRecDepth 100000
namespace Fm
open PySem L2 PySem.Spec PyProof.Rows

/-! ### statements -/
inductive Fl where
  | nx | bk | ct | ret (x : T)
abbrev SF := Rho → M (Fl × Rho)
def FlOk (K : PySem.W.Frag) (w : Wd) (ρ : Rho) (D : Ends) : Fl → Prop
  | .nx => ∀ σ, EnvOk K w σ ρ → D.nx σ w.H
  | .bk => ∀ σ, EnvOk K w σ ρ → D.bk σ w.H
  | .ct => ∀ σ, EnvOk K w σ ρ → D.ct σ w.H
  | .ret x => ∀ v, w.t K x v → D.rt v w.H
def SPost (K : PySem.W.Frag) (E : XK) (w : Wd) (D : Ends) (r : Rs (Fl × Rho)) : Prop :=
  (∀ fl ρ' w', r = .ok (fl, ρ') w'.μ → Ext w w' → StOk K w' → FlOk K w' ρ' D fl) ∧ (∀ x w' cls d, r = .ex x w'.μ → Ext w w' → StOk K w' → ExnOk K w' x cls d → E cls d w'.H)
theorem SPost.from {K : PySem.W.Frag} {E : XK} {w w1 : Wd} {D : Ends} {r : Rs (Fl × Rho)} (h : SPost K E w D r) (e : Ext w w1) : SPost K E w1 D r :=
  ⟨fun fl ρ' w' z e' => h.1 fl ρ' w' z (e.trans e'), fun x w' cls d z e' => h.2 x w' cls d z (e.trans e')⟩
def SOk (K : PySem.W.Frag) (E : XK) (t : TS) (f : SF) : Prop := ∀ (w : Wd) (σ : L2.St) (ρ : Rho), EnvOk K w σ ρ → StOk K w → ∀ r, f ρ w.μ = some r → ∀ D : Ends, SPost K E w D r → t D σ w.H
structure PSt (K : PySem.W.Frag) (X : Cx) (E : XK) (st : Stmt) (t : TS) (f : SF) : Prop where
  pe : PS X st t
  ok : SOk K E t f
structure PBl (K : PySem.W.Frag) (X : Cx) (E : XK) (sts : List Stmt) (t : TS) (f : SF) : Prop where
  pe : PSs X sts t
  ok : SOk K E t f
section
variable {X : Cx} {E : XK} {K : PySem.W.Frag}
@[simp] def sNx : SF := fun ρ => mret (.nx, ρ)
def sBk : SF := fun ρ => mret (.bk, ρ)
def sCt : SF := fun ρ => mret (.ct, ρ)
theorem sok_nx : SOk K E tNext sNx := fun w σ ρ ev s r e D P => by cases e; exact P.1 .nx ρ w rfl (Ext.refl w) s σ ev
theorem sok_bk : SOk K E tBreak sBk := fun w σ ρ ev s r e D P => by cases e; exact P.1 .bk ρ w rfl (Ext.refl w) s σ ev
theorem sok_ct : SOk K E tCont sCt := fun w σ ρ ev s r e D P => by cases e; exact P.1 .ct ρ w rfl (Ext.refl w) s σ ev
theorem st_pass {pos : Pos} : PSt K X E (.Pass pos) tNext sNx := ⟨ps_pass, sok_nx⟩
theorem st_break {pos : Pos} : PSt K X E (.Break pos) tBreak sBk := ⟨ps_break, sok_bk⟩
theorem st_cont {pos : Pos} : PSt K X E (.Continue pos) tCont sCt := ⟨ps_continue, sok_ct⟩
theorem bl_nil : PBl K X E [] tNext sNx := ⟨pss_nil, sok_nx⟩
theorem bl_one {st : Stmt} {t : TS} {f : SF} (h : PSt K X E st t f) : PBl K X E [st] t f := ⟨pss_one h.pe, h.ok⟩
/-- what follows a flow -/
@[simp] def thenS (g : SF) : Fl × Rho → M (Fl × Rho) := fun p => match p.1 with
  | .nx => g p.2
  | _ => mret p
@[simp] def sSeq (f g : SF) : SF := fun ρ => mbind (f ρ) (thenS g)
theorem sok_seq {t u : TS} {f g : SF} (hf : SOk K E t f) (hg : SOk K E u g) : SOk K E (tSeq t u) (sSeq f g) := fun w σ ρ ev s r e D P => by
  show t { D with nx := u D } σ w.H
  have e : mbind (f ρ) (thenS g) w.μ = some r := e
  unfold mbind at e
  cases hf2 : f ρ w.μ with
  | none => rw [hf2] at e; cases e
  | some r1 =>
    rw [hf2] at e
    cases r1 with
    | ex x μ1 =>
      cases e
      exact hf w σ ρ ev s _ hf2 _ ⟨(fun fl ρ' w' z => by cases z), fun x w' cls d z => by cases z; exact P.2 _ w' cls d rfl⟩
    | ok p μ1 =>
      obtain ⟨fl, ρ1⟩ := p
      refine hf w σ ρ ev s _ hf2 _ ⟨fun fl' ρ' w' z e1 s1 => ?_, fun _ _ _ _ z => by cases z⟩
      cases z
      cases fl with
      | nx => exact fun σ' hσ => hg w' σ' ρ1 hσ s1 r e D (P.from e1)
      | bk => cases e; exact P.1 .bk ρ1 w' rfl e1 s1
      | ct => cases e; exact P.1 .ct ρ1 w' rfl e1 s1
      | ret x => cases e; exact P.1 (.ret x) ρ1 w' rfl e1 s1
theorem bl_cons {st : Stmt} {sts : List Stmt} {t u : TS} {f g : SF} (h : PSt K X E st t f) (hr : PBl K X E sts u g) : PBl K X E (st :: sts) (tSeq t u) (sSeq f g) := ⟨pss_cons h.pe hr.pe, sok_seq h.ok hr.ok⟩
@[simp] def sDrop (f : EF) : SF := fun ρ => mbind (f ρ) fun _ => mret (.nx, ρ)
theorem sok_drop {t : TE} {f : EF} (h : EOk K E t f) : SOk K E (tDrop t) (sDrop f) := fun w σ ρ ev s r e D P => by
  show t σ w.H fun _ H1 => D.nx σ H1
  refine At.use (h w σ ρ ev) s e _ (fun x w1 v _ e1 x1 s1 _ => ?_) P.2
  cases e1
  exact P.1 .nx ρ w1 rfl x1 s1 σ (ev.ext x1)
theorem st_expr {e : Expr} {t : TE} {f : EF} {pos : Pos} (h : PD K X E e t f) (hs : swapsWith e none pos.line X.env = pure false := by rfl) : PSt K X E (.Expr e pos) (tDrop t) (sDrop f) := ⟨ps_expr h.pe hs, sok_drop h.ok⟩
@[simp] def sRet (f : EF) : SF := fun ρ => mbind (f ρ) fun x μ => some (.ok (.ret (rd μ x), ρ) μ)
theorem sok_ret {t : TE} {f : EF} (h : EOk K E t f) : SOk K E (tRet t) (sRet f) := fun w σ ρ ev s r e D P => by
  show t σ w.H D.rt
  refine At.use (h w σ ρ ev) s e _ (fun x w1 v _ e1 x1 s1 hx => ?_) P.2
  cases e1
  exact P.1 (.ret (rd w1.μ x)) ρ w1 rfl x1 s1 v (rd_ok s1 hx)
theorem st_ret {e : Expr} {t : TE} {f : EF} {pos : Pos} (h : PD K X E e t f) : PSt K X E (.Return (some e) pos) (tRet t) (sRet f) := ⟨ps_ret h.pe, sok_ret h.ok⟩
def sRetN : SF := fun ρ => mret (.ret (.d .non), ρ)
theorem st_retN {pos : Pos} : PSt K X E (.Return none pos) tRetN sRetN := ⟨ps_retN, fun w σ ρ ev s r e D P => by cases e; exact P.1 (.ret (.d .non)) ρ w rfl (Ext.refl w) s .non rfl⟩
@[simp] def sIf (c : TF) (f g : SF) : SF := fun ρ => mbind (c ρ) fun b => if b = true then f ρ else g ρ
theorem sok_if {tc : TT} {t u : TS} {c : TF} {f g : SF} (hc : BOk K E tc c) (hf : SOk K E t f) (hg : SOk K E u g) : SOk K E (tIfS tc t u) (sIf c f g) := fun w σ ρ ev s r e D P => by
  show tc σ w.H fun b H1 => if b = true then t D σ H1 else u D σ H1
  refine At.use (hc w σ ρ ev) s e _ (fun b w1 b' _ e1 x1 s1 hb => ?_) P.2
  cases hb
  cases b with
  | true => exact hf w1 σ ρ (ev.ext x1) s1 r e1 D (P.from x1)
  | false => exact hg w1 σ ρ (ev.ext x1) s1 r e1 D (P.from x1)
theorem st_if {c : Expr} {a b : List Stmt} {tc : TT} {t u : TS} {fc : TF} {f g : SF} {pos : Pos} (hc : PB K X E c tc fc) (ha : PBl K X E a t f) (hb : PBl K X E b u g) : PSt K X E (.If c a b pos) (tIfS tc t u) (sIf fc f g) := ⟨ps_if hc.pe ha.pe hb.pe, sok_if hc.ok ha.ok hb.ok⟩
/-- an assignment -/
@[simp] def sAsg (f : EF) (g : GF) : SF := fun ρ => mbind (f ρ) fun x => mbind (g x ρ) fun ρ' => mret (.nx, ρ')
theorem sok_asg {t : TE} {g : TG} {f : EF} {gf : GF} {is : List Nat} (h : EOk K E t f) (hg : GOk K is g gf) (hn : GNo gf) : SOk K E (tAsg t g) (sAsg f gf) := fun w σ ρ ev s r e D P => by
  show t σ w.H fun x H1 => g x σ H1 D.nx
  refine At.use (h w σ ρ ev) s e _ (fun x w1 v _ e1 x1 s1 hx => ?_) P.2
  unfold mbind at e1
  cases hq : gf x ρ w1.μ with
  | none => rw [hq] at e1; cases e1
  | some rg =>
    obtain ⟨ρ', hρ⟩ := hn _ _ _ _ hq
    cases hρ
    rw [hq] at e1
    cases e1
    exact hg w1 σ ρ x v ρ' (ev.ext x1) s1 hx hq _ fun σ' hσ _ => P.1 .nx ρ' w1 rfl x1 s1 σ' hσ
theorem st_asg {tg e : Expr} {t : TE} {g : TG} {f : EF} {gf : GF} {is : List Nat} {pos : Pos} (h : PD K X E e t f) (hg : PGt K X is tg g gf) (hs : swapsWithSole [tg] e pos.line X.env = pure false := by rfl) (hw : swappedStores [tg] e X.env = pure none := by rfl) (h1 : (assignEach [tg] X.env).map (·.2) = [assign tg X.env] := by rfl) :
    PSt K X E (.Assign [tg] e pos) (tAsg t g) (sAsg f gf) := ⟨ps_asg h.pe hg.pe hs hw h1, sok_asg h.ok hg.ok hg.no⟩
/-- name = [comprehension], on one line: as data, or as a cell -/
theorem st_lc (i : Nat) {y : Str} {py : Pos} {elt tg iter : Expr} {ifs : List Expr} {scope : Scope} {own : List (Str × Nat)} {pos spos : Pos} {wi : TI} {g : TG} {tt : TT} {te : TE} {f : CF} {fe : EF} (h : PLc K X E own elt tg iter ifs scope wi g tt te f) (hf : EOk K E (tLc wi g tt te (own.map (·.2))) fe)
    (hsw : swapsWith (.ListComp elt [⟨tg, iter, ifs, 0⟩] scope pos) (some (.Name y py)) spos.line X.env = pure true) (hy : X.N[i]? = some y := by rfl) (hyl : X.env.scope.names.lookup y = some .local := by rfl) (hs : ∀ x, foldedSetIterable iter X.env x = pure x := by intro _; rfl) :
    PSt K X E (.Assign [.Name y py] (.ListComp elt [⟨tg, iter, ifs, 0⟩] scope pos) spos) (tAsg (tLc wi g tt te (own.map (·.2))) (gName i)) (sAsg fe (gN i)) :=
  ⟨ps_setLc h.calm h.nd hy hyl hsw h.hi h.blk h.hg h.ht h.he hs, sok_asg hf (gok_n i) (gno_n i)⟩
/-- x += e -/
def sAug (i : Nat) (g : G2) (f : EF) : SF := fun ρ => mbind (eVar i ρ) fun x => mbind (f ρ) fun y => mbind (stp g x y) fun z => mret (.nx, ρ.set i (some z))
theorem sok_aug {i : Nat} {r2 : R2} {g : G2} {t : TE} {f : EF} (hg : OpV K r2 g) (h : EOk K E t f) : SOk K E (tAug i t r2) (sAug i g f) := fun w σ ρ ev s r e D P => by
  show ∃ x, σ[i]? = some (some x) ∧ t σ w.H fun y H1 => r2 x y H1 fun z H2 => D.nx (σ.set i (some z)) H2
  have e : mbind (mof (slotT ρ i)) (fun x => mbind (f ρ) fun y => mbind (stp g x y) fun z => mret (.nx, ρ.set i (some z))) w.μ = some r := e
  unfold mof at e
  unfold mbind at e
  cases hx : slotT ρ i with
  | none => rw [hx] at e; cases e
  | some x =>
    rw [hx] at e
    obtain ⟨v, h1, h2⟩ := ev.2 i x (slotT_some hx)
    refine ⟨v, h1, At.use (h w σ ρ ev) s e _ (fun y w1 u _ e1 x1 s1 hy => ?_) P.2⟩
    refine At.use (at_stp (E := E) hg (x1.t h2) hy) s1 e1 _ (fun z w2 v' _ e2 x2 s2 hz => ?_) fun a w' cls d z e' => P.2 a w' cls d z (x1.trans e')
    cases e2
    exact P.1 .nx _ w2 rfl (x1.trans x2) s2 _ (env_set (ev.ext (x1.trans x2)) i hz)
structure IpD (K : PySem.W.Frag) (X : Cx) (op : Operator) (r : R2) (g : G2) : Prop where
  op : OpR X (inplaceOp op) r
  ov : OpV K r g
theorem ipd_add : IpD K X .Add (qOr qAddI qAddS) gAdd := ⟨iop_add.or iop_add_str, (od_addI (X := X)).ov.or (od_addS (X := X)).ov⟩
theorem ipd_sub : IpD K X .Sub qSub (gI fun i j => .int (i - j)) := ⟨iop_sub, (od_sub (X := X)).ov⟩
theorem st_aug (i : Nat) {x : Str} {e : Expr} {t : TE} {f : EF} {op : Operator} {r : R2} {g : G2} {pos pos' : Pos} (ho : IpD K X op r g) (he : PD K X E e t f) (hN : X.N.Nodup) (hi : X.N[i]? = some x := by rfl) (hx : Loc X.env.scope x := by first | exact .inl rfl | exact .inr rfl)
    (hf : X.fn x = true ∨ X.env.scope.names.lookup x = some .local := by first | exact .inl rfl | exact .inr rfl) : PSt K X E (.AugAssign (.Name x pos') op e pos) (tAug i t r) (sAug i g f) := ⟨ps_aug hN hi hx he.pe ho.op hf, sok_aug ho.ov he.ok⟩
/-- xs[k] = e of a list that is a cell; d[k] = e of a dict that is one -/
def setL (μ : Mu) (x k v : T) : Option Mu := match lstC μ x, k with
  | some (n, ys), .d (.int i) => (ixN ys.length i).map fun j => μ.set n (.lst (ys.set j v))
  | _, _ => none
def putT (kvs : List (Key × T)) (k : Key) (v : T) : List (Key × T) := if (kvs.any fun kv => decide (kv.1 = k)) = true then kvs.map fun kv => if kv.1 = k then (kv.1, v) else kv else kvs ++ [(k, v)]
def setD (μ : Mu) (x k v : T) : Option Mu := match dctC μ x, keyOf k with
  | some (n, ys), some j => if ys.length < SL then some (μ.set n (.dct (putT ys j v))) else none
  | _, _ => none
def sPut (g : Mu → T → T → T → Option Mu) (fv fo fk : EF) : SF := fun ρ => mbind (fv ρ) fun v => mbind (fo ρ) fun x => mbind (fk ρ) fun k μ => match g μ x (rd μ k) v with
  | some μ' => some (.ok (.nx, ρ) μ')
  | none => none
theorem putT_ok {R : T → V → Prop} {k : Key} {x : T} {v : V} (hr : R x v) {xs : List (Key × T)} {vs : List (Key × V)} (h : Paired (fun p q => p.1 = q.1 ∧ R p.2 q.2) xs vs) : Paired (fun p q => p.1 = q.1 ∧ R p.2 q.2) (putT xs k x) (putK vs k v) := by
  have ha : (xs.any fun kv => decide (kv.1 = k)) = (vs.any fun kv => decide (kv.1 = k)) := by
    induction h with
    | nil => rfl
    | cons a b ih => rw [List.any_cons, List.any_cons, ih, a.1]
  unfold putT putK
  rw [ha]
  split
  · refine pd_map _ _ (fun a b q => ?_) h
    rw [q.1]
    split
    · exact ⟨rfl, hr⟩
    · exact q
  · exact pd_app h (.cons ⟨rfl, hr⟩ .nil)
theorem sok_setL {tv to tk : TE} {fv fo fk : EF} (hv : EOk K E tv fv) (ho : EOk K E to fo) (hk : EOk K E tk fk) : SOk K E (tAsg tv (gSub to tk rSetL)) (sPut setL fv fo fk) := fun w σ ρ ev s r e D P => by
  show tv σ w.H fun v H1 => to σ H1 fun o H2 => tk σ H2 fun i H3 => rSetL o i v H3 fun H4 => D.nx σ H4
  refine At.use (hv w σ ρ ev) s e _ (fun xv w1 v _ e1 x1 s1 hxv => ?_) P.2
  refine At.use (ho w1 σ ρ (ev.ext x1)) s1 e1 _ (fun xo w2 o _ e2 x2 s2 hxo => ?_) fun a w' cls d z e' => P.2 a w' cls d z (x1.trans e')
  refine At.use (hk w2 σ ρ ((ev.ext x1).ext x2)) s2 e2 _ (fun xk w3 i _ e3 x3 s3 hxk => ?_) fun a w' cls d z e' => P.2 a w' cls d z ((x1.trans x2).trans e')
  have e3 : (match setL w3.μ xo (rd w3.μ xk) xv with
    | some μ' => some (Rs.ok (Fl.nx, ρ) μ')
    | none => none) = some r := e3
  have hxk := rd_ok s3 hxk
  generalize rd w3.μ xk = yk at e3 hxk
  split at e3
  · rename_i μ' hμ
    cases e3
    unfold setL at hμ
    split at hμ
    · rename_i n ys j hl
      obtain ⟨m, hm, hm2⟩ := Option.map_eq_some_iff.mp hμ
      obtain ⟨a, vs, h1, h2, h3, h4, h5, h6⟩ := lstC_ok s3 (x3.t hxo) hl
      refine ⟨a, vs, j, m, h1, hxk, h5, by rw [← pd_len h6]; exact hm, ?_⟩
      obtain ⟨k1, k2⟩ := wr_ok s3 h2 h3 rfl (c' := .lst (ys.set m xv)) rfl (CellOk.lst_upd h4 (pd_set ((x2.trans x3).t hxv) m h6))
      exact P.1 .nx ρ _ (by rw [← hm2]) ((x1.trans (x2.trans x3)).trans k2) k1 σ ((ev.ext (x1.trans (x2.trans x3))).ext k2)
    · cases hμ
  · cases e3
theorem sok_setD {tv to tk : TE} {fv fo fk : EF} (hv : EOk K E tv fv) (ho : EOk K E to fo) (hk : EOk K E tk fk) : SOk K E (sDPut to tk tv) (sPut setD fv fo fk) := fun w σ ρ ev s r e D P => by
  show tv σ w.H fun v H1 => to σ H1 fun x H2 => tk σ H2 fun y H3 => ∃ a H4, x = .ref a ∧ DPut H3 a y v H4 ∧ D.nx σ H4
  refine At.use (hv w σ ρ ev) s e _ (fun xv w1 v _ e1 x1 s1 hxv => ?_) P.2
  refine At.use (ho w1 σ ρ (ev.ext x1)) s1 e1 _ (fun xo w2 o _ e2 x2 s2 hxo => ?_) fun a w' cls d z e' => P.2 a w' cls d z (x1.trans e')
  refine At.use (hk w2 σ ρ ((ev.ext x1).ext x2)) s2 e2 _ (fun xk w3 i _ e3 x3 s3 hxk => ?_) fun a w' cls d z e' => P.2 a w' cls d z ((x1.trans x2).trans e')
  have e3 : (match setD w3.μ xo (rd w3.μ xk) xv with
    | some μ' => some (Rs.ok (Fl.nx, ρ) μ')
    | none => none) = some r := e3
  have hxk := rd_ok s3 hxk
  generalize rd w3.μ xk = yk at e3 hxk
  split at e3
  · rename_i μ' hμ
    cases e3
    unfold setD at hμ
    split at hμ
    · rename_i n ys j hl hj
      split at hμ
      · rename_i hsz
        cases hμ
        obtain ⟨a, vs, h1, h2, h3, h4, h5, h6⟩ := dctC_ok s3 (x3.t hxo) hl
        have hkk := keyOf_ok hxk hj
        refine ⟨a, _, h1, by rw [hkk]; exact DPut.k h5 (by rw [← pd_len h6, sizeLine_eq]; exact hsz), ?_⟩
        obtain ⟨k1, k2⟩ := wr_ok s3 h2 h3 rfl (c' := .dct (putT ys j xv)) rfl (CellOk.dct_upd h4 (putT_ok ((x2.trans x3).t hxv) h6))
        exact P.1 .nx ρ _ rfl ((x1.trans (x2.trans x3)).trans k2) k1 σ ((ev.ext (x1.trans (x2.trans x3))).ext k2)
      · cases hμ
    · cases hμ
  · cases e3
section
variable {o i e : Expr} {pos pos' : Pos} {to tk tv : TE} {fo fk fv : EF}
theorem st_setL (hv : PD K X E e tv fv) (ho : PD K X E o to fo) (hk : PD K X E i tk fk) (hs : swapsWithSole [.Subscript o i pos'] e pos.line X.env = pure false := by rfl) (hw : swappedStores [.Subscript o i pos'] e X.env = pure none := by rfl) (h1 : (assignEach [.Subscript o i pos'] X.env).map (·.2) = [assign (.Subscript o i pos') X.env] := by rfl)
    (ha : ∀ v, assign (.Subscript o i pos') X.env v = (do
      let ov ← holding [v] (eval o X.env)
      let iv ← holding [v, ov] (eval i X.env)
      standAt pos'
      holding [v, ov, iv] (setItem ov iv v)
      release [v, ov, iv] []) := by intro _; rfl) : PSt K X E (.Assign [.Subscript o i pos'] e pos) (tAsg tv (gSub to tk rSetL)) (sPut setL fv fo fk) :=
  ⟨ps_asg hv.pe (pg_sub ho.pe hk.pe set_list ha) hs hw h1, sok_setL hv.ok ho.ok hk.ok⟩
theorem st_setD (hu : X.A.units + 1 < cLine) (hv : PD K X E e tv fv) (ho : PD K X E o to fo) (hk : PD K X E i tk fk) (hs : swapsWith e (some (.Subscript o i pos')) pos.line X.env = pure false := by rfl) : PSt K X E (.Assign [.Subscript o i pos'] e pos) (sDPut to tk tv) (sPut setD fv fo fk) :=
  ⟨ps_dput hu ho.pe hk.pe hv.pe hs, sok_setD hv.ok ho.ok hk.ok⟩
end

/-! ### freezing a name's cell -/
def fzAtN (μ : Mu) (n : Nat) : Option Mu := match μ[n]? with
  | some (.frz _) => some μ
  | some c => (c.data μ).map fun x => μ.set n (.frz x)
  | none => none
/-- the cell of the name i becomes data, ahead of f -/
def sFz (i : Nat) (f : SF) : SF := fun ρ μ => match slotT ρ i with
  | some (.p n) => match fzAtN μ n with
    | some μ' => f ρ μ'
    | none => none
  | _ => f ρ μ
theorem fz_cell {w : Wd} (s : StOk K w) {n : Nat} {a : Addr} {c : Cell} {x : D} (hA : w.A[n]? = some a) (hc : w.μ[n]? = some c) (hl : c.live = true) (hx : c.data w.μ = some x) : StOk K (w.fz a (w.μ.set n (.frz x))) ∧ Ext w (w.fz a (w.μ.set n (.frz x))) := by
  have hok := s.cell n a c hA hc
  obtain ⟨hF, oh, hH⟩ := hok.nn hl
  have hlt : n < w.μ.length := (List.getElem?_eq_some_iff.mp hc).1
  have sm := fz_same hF (w.μ.set n (.frz x))
  have inj : ∀ m, w.A[m]? = some a → m = n := fun m hm => by
    obtain ⟨h1, e1⟩ := List.getElem?_eq_some_iff.mp hm
    obtain ⟨h2, e2⟩ := List.getElem?_eq_some_iff.mp hA
    exact (List.getElem_inj s.nd).mp (e1.trans e2.symm)
  refine ⟨⟨fun b o' e => ?_, ?_, s.nd, s.tr, fun m b c2 h1 h2 => ?_⟩, ⟨sm, List.prefix_refl _, fun _ h => h, fun _ _ h _ => h, fun b h1 h2 h3 => ?_, fun b l h => ?_, fun b h _ => h⟩⟩
  · show w.H b = some o'
    have e : (if b = a then w.H a else w.F b) = some o' := e
    by_cases hb : b = a
    · rw [if_pos hb] at e; rw [hb]; exact e
    · rw [if_neg hb] at e; exact s.sub b o' e
  · show w.A.length = (w.μ.set n (.frz x)).length
    rw [List.length_set]
    exact s.len
  · have h2 : (w.μ.set n (.frz x))[m]? = some c2 := h2
    by_cases e : n = m
    · subst e
      rw [List.getElem?_set_self hlt] at h2
      cases h2
      have h1 : w.A[n]? = some b := h1
      rw [hA] at h1
      cases h1
      exact data_rep s hok hx hl _
    · rw [List.getElem?_set_ne e] at h2
      refine (s.cell m b c2 h1 h2).rep sm (List.prefix_refl _) (fun l => ?_) fun _ => rfl
      show (if b = a then w.H a else w.F b) = none
      rw [if_neg fun z => e (inj m (by rw [← z]; exact h1)).symm]
      exact ((s.cell m b c2 h1 h2).nn l).1
  · show (if b = a then w.H a else w.F b) = none
    rw [if_neg fun z => h3 ⟨n, c, by rw [z]; exact hA, hc, hl⟩]
    exact h1
  · obtain ⟨m, c2, h1, h2, h3⟩ := l
    have h2 : (w.μ.set n (.frz x))[m]? = some c2 := h2
    by_cases e : n = m
    · subst e
      rw [List.getElem?_set_self hlt] at h2
      cases h2
      cases h3
    · rw [List.getElem?_set_ne e] at h2
      exact ⟨m, c2, h1, h2, h3⟩
theorem sok_fz {i : Nat} {t : TS} {f : SF} (h : SOk K E t f) : SOk K E t (sFz i f) := fun w σ ρ ev s r e D P => by
  have plain : f ρ w.μ = some r → t D σ w.H := fun q => h w σ ρ ev s r q D P
  unfold sFz at e
  split at e
  · rename_i n hn
    split at e
    · rename_i μ' hμ
      unfold fzAtN at hμ
      split at hμ
      · cases hμ
        exact plain e
      · rename_i c hnf hc
        obtain ⟨x, hx, hx2⟩ := Option.map_eq_some_iff.mp hμ
        obtain ⟨v, h1, a, h2, h3⟩ := ev.2 i _ (slotT_some hn)
        have hl : c.live = true := by
          cases c with
          | frz y => exact absurd rfl (hnf y)
          | _ => rfl
        obtain ⟨k1, k2⟩ := fz_cell s h2 hc hl hx
        rw [← hx2] at e
        exact h (w.fz a (w.μ.set n (.frz x))) σ ρ (ev.ext k2) k1 r e D (P.from k2)
      · cases hμ
    · cases e
  · exact plain e
theorem bl_fz (i : Nat) {sts : List Stmt} {t : TS} {f : SF} (h : PBl K X E sts t f) : PBl K X E sts t (sFz i f) := ⟨h.pe, sok_fz h.ok⟩

/-! ### loops -/
/-- behind a turn -/
def turnS (k : Rho → M (Fl × Rho)) : Fl × Rho → M (Fl × Rho) := fun p => match p.1 with
  | .nx => k p.2
  | .ct => k p.2
  | .bk => mret (.nx, p.2)
  | .ret x => mret (.ret x, p.2)
def forL (g : GF) (b : SF) : List T → SF
  | [], ρ => mret (.nx, ρ)
  | x :: r, ρ => mbind (g x ρ) fun ρ1 => mbind (b ρ1) (turnS (forL g b r))
def sFor (it : AF) (g : GF) (b : SF) : SF := fun ρ => mbind (it ρ) fun xs => forL g b xs ρ
theorem turn_ok {w : Wd} {W : Wd} {σ : L2.St} {ρ : Rho} {t : TS} {b : SF} {k : Rho → M (Fl × Rho)} {D : Ends} {N : L2.St → Hp → Prop} {r : Rs (Fl × Rho)} (h : SOk K E t b) (ev : EnvOk K w σ ρ) (s : StOk K w) (ex : Ext W w) (e : mbind (b ρ) (turnS k) w.μ = some r) (P : SPost K E W D r)
    (hN : ∀ w' σ' ρ', Ext w w' → StOk K w' → EnvOk K w' σ' ρ' → k ρ' w'.μ = some r → N σ' w'.H) : t { D with nx := N, ct := N, bk := D.nx } σ w.H := by
  unfold mbind at e
  cases hb : b ρ w.μ with
  | none => rw [hb] at e; cases e
  | some r1 =>
    rw [hb] at e
    cases r1 with
    | ex x μ1 =>
      cases e
      exact h w σ ρ ev s _ hb _ ⟨(fun fl ρ' w' z => by cases z), fun x w' cls d z e1 => by cases z; exact P.2 _ w' cls d rfl (ex.trans e1)⟩
    | ok p μ1 =>
      obtain ⟨fl, ρ1⟩ := p
      refine h w σ ρ ev s _ hb _ ⟨fun fl' ρ' w' z e1 s1 => ?_, fun _ _ _ _ z => by cases z⟩
      cases z
      cases fl with
      | nx => exact fun σ' hσ => hN w' σ' ρ1 e1 s1 hσ e
      | ct => exact fun σ' hσ => hN w' σ' ρ1 e1 s1 hσ e
      | bk => cases e; exact P.1 .nx ρ1 w' rfl (ex.trans e1) s1
      | ret x => cases e; exact P.1 (.ret x) ρ1 w' rfl (ex.trans e1) s1
theorem sok_for {is : List Nat} {wi : TI} {g : TG} {tb : TS} {it : AF} {gf : GF} {b : SF} (hi : IOk K E wi it) (hg : GOk K is g gf) (hgn : GNo gf) (hb : SOk K E tb b) : SOk K E (tFor wi g tb) (sFor it gf b) := fun w σ ρ ev s r er D P => by
  have er : mbind (it ρ) (fun xs => forL gf b xs ρ) w.μ = some r := er
  unfold mbind at er
  cases hf : it ρ w.μ with
  | none => rw [hf] at er; cases er
  | some r1 =>
    rw [hf] at er
    cases r1 with
    | ex y μ1 =>
      cases er
      exact hi w σ ρ ev s _ hf _ (fun _ _ z => by cases z) fun x w' cls d z => by cases z; exact P.2 _ w' cls d rfl
    | ok xs μ1 =>
      refine hi w σ ρ ev s _ hf _ (fun xs' w' z e1 s1 J G Y wk yl => ?_) fun _ _ _ _ z => by cases z
      cases z
      have er : forL gf b xs ρ w'.μ = some r := er
      refine for_it wk (fun i σ1 H => ∃ (w1 : Wd) (ρ1 : Rho), w1.H = H ∧ Ext w' w1 ∧ StOk K w1 ∧ EnvOk K w1 σ1 ρ1 ∧ forL gf b (xs.drop i) ρ1 w1.μ = some r) ⟨w', ρ, rfl, Ext.refl _, s1, ev.ext e1, er⟩ ?_ ?_ ?_
      · rintro i σ1 H _ ⟨w1, ρ1, rfl, h1, h2, _⟩
        exact (yl w1 h1 h2).1
      · rintro i x σ1 H H' hlt ⟨w1, ρ1, rfl, h1, h2, h3, h4⟩ y
        obtain ⟨w2, t, rfl, hμ, e2, s2, hx, hr⟩ := (yl w1 h1 h2).2 i x H' hlt y
        have hdrop : xs.drop i = t :: xs.drop (i + 1) := by
          obtain ⟨hl, e⟩ := List.getElem?_eq_some_iff.mp hx
          rw [List.drop_eq_getElem_cons hl, e]
        rw [hdrop, ← hμ] at h4
        have h4 : mbind (gf t ρ1) (fun ρ2 => mbind (b ρ2) (turnS (forL gf b (xs.drop (i + 1))))) w2.μ = some r := h4
        unfold mbind at h4
        cases hgf : gf t ρ1 w2.μ with
        | none => rw [hgf] at h4; cases h4
        | some rg =>
          obtain ⟨ρ2, hρ⟩ := hgn _ _ _ _ hgf
          cases hρ
          rw [hgf] at h4
          refine hg w2 σ1 ρ1 t x ρ2 (h3.ext e2) s2 hr hgf _ fun σ2 hσ2 _ => ?_
          refine turn_ok hb hσ2 s2 (e1.trans (h1.trans e2)) h4 P fun w3 σ3 ρ3 e3 s3 hσ3 h5 => ⟨w3, ρ3, rfl, h1.trans (e2.trans e3), s3, hσ3, h5⟩
      · rintro σ1 H ⟨w1, ρ1, rfl, h1, h2, h3, h4⟩
        rw [List.drop_length] at h4
        cases h4
        exact P.1 .nx ρ1 w1 rfl (e1.trans h1) h2 σ1 h3
theorem st_for {tg iter : Expr} {body : List Stmt} {is : List Nat} {wi : TI} {g : TG} {tb : TS} {it : AF} {gf : GF} {b : SF} {pos : Pos} (hp : PassesOwn (model X.prog X.w) X.A X.env X.xe) (hc : X.calm = true) (hi : PIt K X E tg iter wi it) (hg : PGt K X is tg g gf) (hb : PBl K X E body tb b) (hs : ∀ x, foldedSetIterable iter X.env x = pure x := by intro _; rfl) :
    PSt K X E (.For tg iter body [] pos) (tFor wi g tb) (sFor it gf b) := ⟨ps_for hp hc hi.pe hg.pe hb.pe hs, sok_for hi.ok hg.ok hg.no hb.ok⟩
def whileN (c : TF) (b : SF) : Nat → SF
  | 0 => fun _ _ => none
  | n + 1 => fun ρ => mbind (c ρ) fun t => if t = true then mbind (b ρ) (turnS (whileN c b n)) else mret (.nx, ρ)
open Classical in
noncomputable def sWhile (c : TF) (b : SF) : SF := fun ρ μ => if h : ∃ p : Nat × Rs (Fl × Rho), whileN c b p.1 ρ μ = some p.2 then some (Classical.choose h).2 else none
theorem sWhile_some {c : TF} {b : SF} {ρ : Rho} {μ : Mu} {r : Rs (Fl × Rho)} (h : sWhile c b ρ μ = some r) : ∃ n, whileN c b n ρ μ = some r := by
  unfold sWhile at h
  split at h
  · rename_i hh
    cases h
    exact ⟨_, Classical.choose_spec hh⟩
  · cases h
theorem whileN_mono {c : TF} {b : SF} : ∀ {n m : Nat} {ρ : Rho} {μ : Mu} {r : Rs (Fl × Rho)}, whileN c b n ρ μ = some r → n ≤ m → whileN c b m ρ μ = some r
  | 0, _, _, _, _, h, _ => by cases h
  | n + 1, 0, _, _, _, _, l => by omega
  | n + 1, m + 1, ρ, μ, r, h, l => by
    have h : mbind (c ρ) (fun t => if t = true then mbind (b ρ) (turnS (whileN c b n)) else mret (.nx, ρ)) μ = some r := h
    show mbind (c ρ) (fun t => if t = true then mbind (b ρ) (turnS (whileN c b m)) else mret (.nx, ρ)) μ = some r
    unfold mbind at h ⊢
    cases h1 : c ρ μ with
    | none => rw [h1] at h; cases h
    | some r1 =>
      rw [h1] at h
      cases r1 with
      | ex x μ1 => exact h
      | ok t μ1 =>
        cases t with
        | false => exact h
        | true =>
          have h : mbind (b ρ) (turnS (whileN c b n)) μ1 = some r := h
          show mbind (b ρ) (turnS (whileN c b m)) μ1 = some r
          unfold mbind at h ⊢
          cases h2 : b ρ μ1 with
          | none => rw [h2] at h; cases h
          | some r2 =>
            rw [h2] at h
            cases r2 with
            | ex x μ2 => exact h
            | ok p μ2 =>
              obtain ⟨fl, ρ2⟩ := p
              cases fl with
              | nx => exact whileN_mono (n := n) (m := m) h (by omega)
              | ct => exact whileN_mono (n := n) (m := m) h (by omega)
              | bk => exact h
              | ret x => exact h
theorem sWhile_of {c : TF} {b : SF} {ρ : Rho} {μ : Mu} {r : Rs (Fl × Rho)} {n : Nat} (h : whileN c b n ρ μ = some r) : sWhile c b ρ μ = some r := by
  have hh : ∃ p : Nat × Rs (Fl × Rho), whileN c b p.1 ρ μ = some p.2 := ⟨(n, r), h⟩
  unfold sWhile
  rw [dif_pos hh]
  have q := Classical.choose_spec hh
  have q1 := whileN_mono q (Nat.le_max_left _ n)
  have q2 := whileN_mono h (Nat.le_max_right (Classical.choose hh).1 n)
  exact q1.symm.trans q2
theorem sok_while {tc : TT} {tb : TS} {c : TF} {b : SF} (hc : BOk K E tc c) (hb : SOk K E tb b) : SOk K E (tWhile tc tb) (sWhile c b) := fun w σ ρ ev s r er D P => by
  obtain ⟨n, hn⟩ := sWhile_some er
  refine ⟨fun m σ1 H => ∃ (w1 : Wd) (ρ1 : Rho), w1.H = H ∧ Ext w w1 ∧ StOk K w1 ∧ EnvOk K w1 σ1 ρ1 ∧ whileN c b m ρ1 w1.μ = some r, ⟨n, w, ρ, rfl, Ext.refl w, s, ev, hn⟩, ?_⟩
  rintro m σ1 H ⟨w1, ρ1, rfl, h1, h2, h3, h4⟩
  cases m with
  | zero => cases h4
  | succ m =>
    have h4 : mbind (c ρ1) (fun t => if t = true then mbind (b ρ1) (turnS (whileN c b m)) else mret (.nx, ρ1)) w1.μ = some r := h4
    refine At.use (hc w1 σ1 ρ1 h3) h2 h4 _ (fun t w2 t' _ e2 x2 s2 ht => ?_) fun a w' cls d z e' => P.2 a w' cls d z (h1.trans e')
    cases ht
    cases t with
    | false =>
      cases e2
      exact P.1 .nx ρ1 w2 rfl (h1.trans x2) s2 σ1 (h3.ext x2)
    | true =>
      refine ⟨fun σ' H' => ∃ (w1 : Wd) (ρ1 : Rho), w1.H = H' ∧ Ext w w1 ∧ StOk K w1 ∧ EnvOk K w1 σ' ρ1 ∧ whileN c b m ρ1 w1.μ = some r, fun σ' H' h => ⟨m, Nat.lt_succ_self m, h⟩, ?_⟩
      exact turn_ok hb (h3.ext x2) s2 (h1.trans x2) e2 P fun w3 σ3 ρ3 e3 s3 hσ3 h5 => ⟨w3, ρ3, rfl, (h1.trans x2).trans e3, s3, hσ3, h5⟩
theorem st_while {c : Expr} {body : List Stmt} {tc : TT} {tb : TS} {fc : TF} {b : SF} {pos : Pos} (hp : PassesOwn (model X.prog X.w) X.A X.env X.xe) (hc : PB K X E c tc fc) (hb : PBl K X E body tb b) : PSt K X E (.While c body [] pos) (tWhile tc tb) (sWhile fc b) :=
  ⟨ps_while hp hc.pe hb.pe, sok_while hc.ok hb.ok⟩
end
end Fm
set_option Elab.async false
set_option linter.all false
set_option maxRecDepth 100000
namespace Fm
open PySem L2 PySem.Spec PyProof.Rows

/-! ### a def's end: its own cells are let go where nothing else knows them -/
def T.lt (k : Nat) : T → Prop
  | .d _ => True
  | .p n => n < k
def Cell.lt (k : Nat) : Cell → Prop
  | .lst xs => ∀ x ∈ xs, T.lt k x
  | .dct kvs => ∀ p ∈ kvs, T.lt k p.2
  | .obj _ fs => ∀ p ∈ fs, T.lt k p.2
  | .frz _ => True
def FinC (μ0 μ' : Mu) (x : T) : Prop := x.lt μ0.length ∧ ∀ (m : Nat) (c : Cell), m < μ0.length → μ'[m]? = some c → μ0[m]? = some c ∨ c.lt μ0.length
open Classical in
noncomputable def finMu (μ0 μ' : Mu) (x : T) : Mu := if FinC μ0 μ' x then μ'.take μ0.length else μ'
noncomputable def fnB (N : Nat) (body : SF) : FN := fun xs μ => match body (xs.map some ++ List.replicate (N - xs.length) none) μ with
  | some (.ok (.nx, _) μ') => some (.ok (.d .non) (finMu μ μ' (.d .non)))
  | some (.ok (.ret x, _) μ') => some (.ok x (finMu μ μ' x))
  | some (.ex e μ') => some (.ex e (finMu μ μ' (.d .non)))
  | _ => none
section
variable {K : PySem.W.Frag}
theorem RepT.lt {F : Hp} {A : List Addr} {x : T} {v : V} (h : RepT K F A x v) : x.lt A.length := by
  cases x with
  | d => trivial
  | p n =>
    obtain ⟨a, h1, _⟩ := h
    exact (List.getElem?_eq_some_iff.mp h1).1
theorem pd_mem {α β : Type} {R : α → β → Prop} : ∀ {l : List α} {m : List β} {a : α}, Paired R l m → a ∈ l → ∃ b, R a b
  | _, _, a, .nil, h => by cases h
  | _, _, a, .cons r t, h => by
    rcases List.mem_cons.mp h with e | e
    · subst e; exact ⟨_, r⟩
    · exact pd_mem t e
theorem CellOk.lt {w : Wd} {b : Addr} {c : Cell} (h : CellOk K w b c) : c.lt w.A.length := by
  cases c with
  | frz => trivial
  | lst xs => obtain ⟨_, vs, _, h2⟩ := h; exact fun x hx => let ⟨v, q⟩ := pd_mem h2 hx; q.lt
  | dct xs => obtain ⟨_, vs, _, h2⟩ := h; exact fun x hx => let ⟨v, q⟩ := pd_mem h2 hx; q.2.lt
  | obj C xs => obtain ⟨_, _, vs, _, h2⟩ := h; exact fun x hx => let ⟨v, q⟩ := pd_mem h2 hx; q.2.lt
theorem RepT.cut {F : Hp} {A : List Addr} {k : Nat} {x : T} {v : V} (h : RepT K F A x v) (l : x.lt k) : RepT K F (A.take k) x v := by
  cases x with
  | d => exact h
  | p n =>
    obtain ⟨a, h1, h2⟩ := h
    exact ⟨a, by rw [List.getElem?_take_of_lt l]; exact h1, h2⟩
theorem pd_with {α β : Type} {R S : α → β → Prop} : ∀ {l : List α} {m : List β}, Paired R l m → (∀ a ∈ l, ∀ b, R a b → S a b) → Paired S l m
  | _, _, .nil, _ => .nil
  | _, _, .cons r t, h => .cons (h _ List.mem_cons_self _ r) (pd_with t fun a ha => h a (List.mem_cons_of_mem _ ha))
def Wd.cut (w : Wd) (k : Nat) : Wd := { w with A := w.A.take k, μ := w.μ.take k }
theorem CellOk.cut {w : Wd} {b : Addr} {c : Cell} {k : Nat} (h : CellOk K w b c) (l : c.lt k) : CellOk K (w.cut k) b c := by
  cases c with
  | frz => exact h
  | lst xs => obtain ⟨h0, vs, h1, h2⟩ := h; exact ⟨h0, vs, h1, pd_with h2 fun a ha b r => RepT.cut r (l a ha)⟩
  | dct xs => obtain ⟨h0, vs, h1, h2⟩ := h; exact ⟨h0, vs, h1, pd_with h2 fun a ha b r => ⟨r.1, RepT.cut r.2 (l a ha)⟩⟩
  | obj C xs => obtain ⟨h0, dx, vs, h1, h2⟩ := h; exact ⟨h0, dx, vs, h1, pd_with h2 fun a ha b r => ⟨r.1, RepT.cut r.2 (l a ha)⟩⟩
theorem cut_ok {w w' : Wd} {x : T} (s : StOk K w) (e : Ext w w') (s' : StOk K w') (h : FinC w.μ w'.μ x) : StOk K (w'.cut w.μ.length) ∧ Ext w (w'.cut w.μ.length) := by
  have hle : w.A.length ≤ w'.A.length := e.pre.length_le
  refine ⟨⟨s'.sub, ?_, (List.take_sublist _ _).nodup s'.nd, fun b hb => s'.tr b (List.mem_of_mem_take hb), fun n b c h1 h2 => ?_⟩, ⟨e.sub, ?_, e.dom, e.keep, e.capt, fun b l => ?_, fun b hb => e.new b (List.mem_of_mem_take hb)⟩⟩
  · show (w'.A.take _).length = (w'.μ.take _).length
    rw [List.length_take, List.length_take, s'.len]
  · have h1 : (w'.A.take w.μ.length)[n]? = some b := h1
    have h2 : (w'.μ.take w.μ.length)[n]? = some c := h2
    have hn : n < w.μ.length := by
      have := (List.getElem?_eq_some_iff.mp h1).1
      rw [List.length_take] at this
      omega
    rw [List.getElem?_take_of_lt hn] at h1 h2
    refine (s'.cell n b c h1 h2).cut ?_
    rcases h.2 n c hn h2 with q | q
    · obtain ⟨a, ha⟩ : ∃ a, w.A[n]? = some a := ⟨w.A[n]'(by rw [s.len]; exact hn), List.getElem?_eq_getElem _⟩
      have := (s.cell n a c ha q).lt
      rw [s.len] at this
      exact this
    · exact q
  · show w.A <+: w'.A.take w.μ.length
    rw [← s.len]
    obtain ⟨r, hr⟩ := e.pre
    rw [← hr, List.take_left]
    exact List.prefix_refl _
  · obtain ⟨n, c, h1, h2, h3⟩ := l
    have h1 : (w'.A.take w.μ.length)[n]? = some b := h1
    have h2 : (w'.μ.take w.μ.length)[n]? = some c := h2
    have hn : n < w.μ.length := by
      have := (List.getElem?_eq_some_iff.mp h1).1
      rw [List.length_take] at this
      omega
    rw [List.getElem?_take_of_lt hn] at h1 h2
    exact e.lv b ⟨n, c, h1, h2, h3⟩
theorem fin_ok {w w' : Wd} {x : T} (s : StOk K w) (e : Ext w w') (s' : StOk K w') : ∃ w2, w2.H = w'.H ∧ w2.F = w'.F ∧ w2.μ = finMu w.μ w'.μ x ∧ Ext w w2 ∧ StOk K w2 ∧ ∀ v, w'.t K x v → w2.t K x v := by
  unfold finMu
  by_cases h : FinC w.μ w'.μ x
  · rw [if_pos h]
    obtain ⟨h1, h2⟩ := cut_ok s e s' h
    exact ⟨w'.cut w.μ.length, rfl, rfl, rfl, h2, h1, fun v q => RepT.cut q h.1⟩
  · rw [if_neg h]
    exact ⟨w', rfl, rfl, rfl, e, s', fun _ q => q⟩
/-- a body whose own cells end with it -/
theorem finMu_eq {μ0 μ' : Mu} {x : T} (h : FinC μ0 μ' x) : finMu μ0 μ' x = μ'.take μ0.length := by unfold finMu; rw [if_pos h]
theorem finMu_app {μ z : Mu} {x : D} : finMu μ (μ ++ z) (.d x) = μ := by
  rw [finMu_eq (x := .d x) ⟨show T.lt _ (T.d x) from trivial, fun m c hm hc => .inl (by rw [List.getElem?_append_left hm] at hc; exact hc)⟩, List.take_left]
@[simp] theorem finMu_self {μ : Mu} {x : D} : finMu μ μ (.d x) = μ := by
  have q := finMu_app (μ := μ) (z := []) (x := x)
  rwa [List.append_nil] at q
theorem finMu_set {μ z : Mu} {x : D} {b : Nat} {c : Cell} (hc : ∀ k, c.lt k) : finMu μ (μ.set b c ++ z) (.d x) = μ.set b c := by
  rw [finMu_eq (x := .d x) ⟨show T.lt _ (T.d x) from trivial, fun m c' hm hc' => ?_⟩]
  · rw [show μ.length = (μ.set b c).length by rw [List.length_set], List.take_left]
  · rw [List.getElem?_append_left (by rw [List.length_set]; exact hm)] at hc'
    by_cases e : b = m
    · subst e
      rw [List.getElem?_set_self hm] at hc'
      cases hc'
      exact .inr (hc _)
    · rw [List.getElem?_set_ne e] at hc'
      exact .inl hc'
theorem finMu_set0 {μ : Mu} {x : D} {b : Nat} {c : Cell} (hc : ∀ k, c.lt k) : finMu μ (μ.set b c) (.d x) = μ.set b c := by
  have q := finMu_set (μ := μ) (z := []) (x := x) (b := b) hc
  rwa [List.append_nil] at q
/-- the slots at a def's entry -/
theorem start_ok {w : Wd} {N : List Str} {xs : List T} {vs : List V} (h : Paired (w.t K) xs vs) : EnvOk K w (L2.start N vs) (xs.map some ++ List.replicate (N.length - xs.length) none) := by
  unfold L2.start
  refine ⟨by rw [List.length_append, List.length_append, List.length_map, List.length_map, List.length_replicate, List.length_replicate, pd_len h], fun i x hx => ?_⟩
  by_cases hi : i < xs.length
  · rw [List.getElem?_append_left (by rw [List.length_map]; exact hi), List.getElem?_map] at hx
    obtain ⟨y, h1, h2⟩ := Option.map_eq_some_iff.mp hx
    cases h2
    obtain ⟨v, h3, h4⟩ := pd_get h h1
    refine ⟨v, ?_, h4⟩
    rw [List.getElem?_append_left (by rw [List.length_map, ← pd_len h]; exact hi), List.getElem?_map, h3]
    rfl
  · rw [List.getElem?_append_right (by rw [List.length_map]; omega), List.getElem?_replicate] at hx
    split at hx <;> cases hx
variable {P : Program} {w : World} {mg : Str → Option Value} {base : Heap}
/-- what stands around a def's body -/
structure BdS (X : Cx) (E : XK) (k : Nat) : Prop extends Bd X E k where
  own : PassesOwn (model X.prog X.w) X.A X.env X.xe
/-- THE RULE for a def -/
theorem okF {x qual : Str} {st : Stmt} {f : Addr} {fd : FuncData} {N ps : List Str} {k : Nat} {body : SF} (F : L2.Fun K x qual st f fd) (S : FnScope N ps (defScope st)) 
    (hbody : ∀ (cdv : Value) (A : Around) (outer : List Env) (s : Shared) (H : Hp) (E : XK), BdS (cxOf (L2.CX P w) P w K mg base N qual (defScope st) f cdv A outer s H E) E k → ∃ t, PBl K (cxOf (L2.CX P w) P w K mg base N qual (defScope st) f cdv A outer s H E) E (defBody st) t body) :
    FnOk P w K mg base (L2.CX P w) (k + 1) f fd ps (spM K ps.length (fnB N.length body)) := by
  refine F.okX S (fun vs H Q E h => h.1) fun cdv A outer s H vs Q E hr hsp => ?_
  obtain ⟨hl, w0, xs, r, rfl, s0, hx, hf, h1, h2⟩ := hsp
  obtain ⟨t, ht⟩ := hbody cdv A outer s w0.H E ⟨⟨hr, passes_call (takes_of rfl rfl rfl rfl) fun _ _ _ _ h => h, rfl⟩, passes_of rfl⟩
  refine ⟨t, ht.pe, ?_⟩
  unfold fnB at hf
  have ev := start_ok (N := N) hx
  split at hf
  · rename_i ρ' μ' hq
    cases hf
    refine ht.ok w0 _ _ ev s0 _ hq _ ⟨fun fl ρ2 w' z e1 s1 => ?_, fun _ _ _ _ z => by cases z⟩
    cases z
    intro σ' _
    obtain ⟨w2, q1, q2, q3, q4, q5, q6⟩ := fin_ok (x := .d .non) s0 e1 s1
    show Q .non w'.H
    rw [← q1]
    exact h1 (.d .non) w2 .non (by rw [q3]) q4 q5 rfl
  · rename_i y ρ' μ' hq
    cases hf
    refine ht.ok w0 _ _ ev s0 _ hq _ ⟨fun fl ρ2 w' z e1 s1 => ?_, fun _ _ _ _ z => by cases z⟩
    cases z
    intro v hv
    obtain ⟨w2, q1, q2, q3, q4, q5, q6⟩ := fin_ok (x := y) s0 e1 s1
    show Q v w'.H
    rw [← q1]
    exact h1 y w2 v (by rw [q3]) q4 q5 (q6 v hv)
  · rename_i y μ' hq
    cases hf
    refine ht.ok w0 _ _ ev s0 _ hq _ ⟨(fun fl ρ2 w' z => by cases z), fun y' w' cls d z e1 s1 hex => ?_⟩
    cases z
    obtain ⟨w2, q1, q2, q3, q4, q5, q6⟩ := fin_ok (x := .d .non) s0 e1 s1
    rw [← q1]
    refine h2 _ w2 cls d (by rw [q3]) q4 q5 ?_
    unfold ExnOk at hex ⊢
    rw [q2]
    exact hex
  · cases hf
theorem okM {x qual : Str} {st : Stmt} {f : Addr} {fd : FuncData} {N ps : List Str} {k : Nat} {body : SF} (F : L2.Fun K x qual st f fd) (S : FnScope N ps (defScope st)) (hm : mg x = some (.ref f)) (hb : Binds K fd ps [])
    (hbody : ∀ (cdv : Value) (A : Around) (outer : List Env) (s : Shared) (H : Hp) (E : XK), BdS (cxOf (L2.CX P w) P w K mg base N qual (defScope st) f cdv A outer s H E) E k → ∃ t, PBl K (cxOf (L2.CX P w) P w K mg base N qual (defScope st) f cdv A outer s H E) E (defBody st) t body) :
    Fn P w K mg base (k + 1) x ps.length (fnB N.length body) := ⟨f, fd, ps, okF F S hbody, hm, F.kp, hb, rfl⟩
/-- the ground of a recursion: nothing can be asked -/
theorem okM0 {x qual : Str} {st : Stmt} {f : Addr} {fd : FuncData} {ps : List Str} {k : Nat} (F : L2.Fun K x qual st f fd) (hm : mg x = some (.ref f)) (hb : Binds K fd ps []) : Fn P w K mg base k x ps.length (fun _ _ => none) := by
  refine ⟨f, fd, ps, ⟨fun vs H Q E h => h.1, fun A outer s H args us vs Q E _ _ _ _ h => ?_⟩, hm, F.kp, hb, rfl⟩
  obtain ⟨_, w0, xs, r, _, _, _, hf, _⟩ := h
  cases hf
/-- law(script): what the row asks, by the def's function -/
theorem sp_law {fn : FN} (h : ∀ ns : List Int, ns.length ≤ 63 → ∃ μ, fn [.d (.kl ns)] [] = some (.ok (.d (.bl true)) μ)) {H : Hp} {a : Addr} {ns : List Int} (hl : ns.length ≤ 63) (hS : SqL K H a (ns.map V.int)) :
    spM K 1 fn [.ref a] H (fun v _ => v = .bl true) (fun _ _ _ => False) := by
  obtain ⟨μ, hμ⟩ := h ns hl
  refine ⟨rfl, ⟨H, H, [], []⟩, [.d (.kl ns)], _, rfl, ⟨Same.refl _, rfl, List.nodup_nil, fun b h => (nomatch h), fun n b c h => by simp at h⟩, .cons ⟨a, rfl, hS⟩ .nil, hμ, fun x w' v z _ _ hv => ?_, fun _ _ _ _ z => by cases z⟩
  cases z
  exact hv
end
end Fm
set_option Elab.async false
set_option linter.all false
set_option maxRecDepth 100000
namespace Fm
open PySem L2 PySem.Spec PyProof.Rows
section
variable {X : Cx} {E : XK} {K : PySem.W.Frag}
/-! ### constants of the module -/
def gci (n : Int) : EF := eC (.int n)
theorem pd_gi {x : Str} {n : Int} {pos : Pos} (hm : ∃ t, X.mg x = some (.int n t)) (hg : Gl X x := by rfl) (hd : (x == ("__debug__" : Str)) = false := by decide) : PD K X E (.Name x pos) (tC (.int n)) (eC (.int n)) := by
  obtain ⟨t, ht⟩ := hm
  exact ⟨pe_glob hg ht ⟨_, rfl⟩ hd, eok_c fun _ => rfl⟩
theorem pd_gs {x : Str} {n : Str} {pos : Pos} (hm : ∃ t, X.mg x = some (.str n t)) (hg : Gl X x := by rfl) (hd : (x == ("__debug__" : Str)) = false := by decide) : PD K X E (.Name x pos) (tC (.str n)) (eC (.str n)) := by
  obtain ⟨t, ht⟩ := hm
  exact ⟨pe_glob hg ht ⟨_, rfl⟩ hd, eok_c fun _ => rfl⟩
/-! ### -a -/
def negT (x : T) : Option T := match x with
  | .d (.int i) => some (.d (.int (-i)))
  | _ => none
def eNeg (f : EF) : EF := fun ρ => mbind (f ρ) fun x μ => mof (negT (rd μ x)) μ
theorem pd_neg {a : Expr} {ta : TE} {fa : EF} {pos : Pos} (ha : PD K X E a ta fa) : PD K X E (.UnaryOp .USub a pos) (tUn (rU fun i => .int (-i)) ta) (eNeg fa) := by
  refine ⟨pe_un un_neg ha.pe, fun w σ ρ ev => ?_⟩
  show At K E w (fun Q => ta σ w.H fun x H1 => rU (fun i => .int (-i)) x H1 Q) _ _
  refine At.bind rv_m (ha.ok w σ ρ ev) fun x v w1 e1 s1 hx => ?_
  have q := At.pure (K := K) (E := E) (w := w1) (t := rU (fun i => .int (-i)) v w1.H) (o := negT (rd w1.μ x)) (R := RV K) fun s b hb => by
    have hx := rd_ok s hx
    generalize rd w1.μ x = y at hb hx
    unfold negT at hb
    split at hb
    · rename_i i
      cases hb
      exact ⟨.int (-i), rfl, fun Q q => ⟨i, hx, q⟩⟩
    · cases hb
  exact q
/-! ### xs + ys of lists -/
def catC (μ : Mu) (x y : T) : Option Cell := match lstTr μ x, lstTr μ y with
  | some xs, some ys => if xs.length + ys.length ≤ SL then some (.lst (xs ++ ys)) else none
  | _, _ => none
def cCat (fa fb : EF) : CF := fun ρ => mbind (fa ρ) fun x => mbind (fb ρ) fun y μ => mof (catC μ (rd μ x) (rd μ y)) μ
theorem pc_cat {a b : Expr} {ta tb : TE} {fa fb : EF} {pos : Pos} (ha : PD K X E a ta fa) (hb : PD K X E b tb fb) : PCr K X E (.BinOp a .Add b pos) (tOp rCat ta tb) (cCat fa fb) := by
  refine ⟨pe_op op_cat ha.pe hb.pe, fun w σ ρ ev => ?_⟩
  show At K E w (fun Q => ta σ w.H fun x H1 => tb σ H1 fun y H2 => rCat x y H2 Q) _ _
  refine At.bind rc_m (ha.ok w σ ρ ev) fun x v w1 e1 s1 hx => At.bind rc_m (hb.ok w1 σ ρ (ev.ext e1)) fun y u w2 e2 s2 hy => ?_
  have q := at_new (K := K) (E := E) (w := w2) (t := rCat v u w2.H) (o := catC w2.μ (rd w2.μ x) (rd w2.μ y)) fun s c hc => by
    unfold catC at hc
    split at hc
    · rename_i xs ys h1 h2
      split at hc
      · rename_i hl
        cases hc
        obtain ⟨a, vs, a1, a2, a3⟩ := lstTr_ok s (rd_ok s (e2.t hx)) h1
        obtain ⟨b, us, b1, b2, b3⟩ := lstTr_ok s (rd_ok s hy) h2
        exact ⟨.lst (vs ++ us), pd_app a3 b3, fun Q q => ⟨a, b, vs, us, a1, b1, a2, b2, by rw [← pd_len a3, ← pd_len b3]; exact le_SL hl, q⟩⟩
      · cases hc
    · cases hc
  exact q
/-! ### {k: v, ..} -/
def RP (K : PySem.W.Frag) : RT (List (T × T)) (List (V × V)) := fun _ w' xs vs => Paired (fun a b => w'.t K a.1 b.1 ∧ w'.t K a.2 b.2) xs vs
abbrev PF := Rho → M (List (T × T))
def ppN : PF := fun _ => mret []
def ppC (k v : EF) (r : PF) : PF := fun ρ => mbind (k ρ) fun x => mbind (v ρ) fun y => mbind (r ρ) fun ps => mret ((x, y) :: ps)
structure PPd (K : PySem.W.Frag) (X : Cx) (E : XK) (pos : Pos) (keys : List (Option Expr)) (values : List Expr) (trs : List (TE × TE)) (f : PF) : Prop where
  pe : PPs X pos keys values trs
  ok : ∀ w σ ρ, EnvOk K w σ ρ → At K E w (tPairs trs σ w.H) (f ρ) (RP K)
theorem pps_n {pos : Pos} : PPd K X E pos [] [] [] ppN := ⟨pps_nil, fun w σ ρ _ => At.ret (R := RP K) .nil⟩
theorem rp_m : ∀ w w1 w2 a b, Ext w w1 → RP K w1 w2 a b → RP K w w2 a b := fun _ _ _ _ _ _ h => h
theorem pps_c {pos : Pos} {k v : Expr} {ks : List (Option Expr)} {vs : List Expr} {tk tv : TE} {trs : List (TE × TE)} {fk fv : EF} {r : PF} (hk : PD K X E k tk fk) (hv : PD K X E v tv fv) (hr : PPd K X E pos ks vs trs r) : PPd K X E pos (some k :: ks) (v :: vs) ((tk, tv) :: trs) (ppC fk fv r) := by
  refine ⟨pps_cons hk.pe hv.pe hr.pe, fun w σ ρ ev => ?_⟩
  show At K E w (fun Q => tk σ w.H fun x H1 => tv σ H1 fun y H2 => tPairs trs σ H2 fun ps H3 => Q ((x, y) :: ps) H3) _ _
  refine At.bind rp_m (hk.ok w σ ρ ev) fun x a w1 e1 s1 hx => At.bind rp_m (hv.ok w1 σ ρ (ev.ext e1)) fun y b w2 e2 s2 hy => At.bind rp_m (hr.ok w2 σ ρ ((ev.ext e1).ext e2)) fun ps qs w3 e3 s3 hps => ?_
  exact At.ret (a := (x, y) :: ps) (b := (a, b) :: qs) (R := RP K) (.cons ⟨(e2.trans e3).t hx, e3.t hy⟩ hps)
def keyed (μ : Mu) : List (T × T) → Option (List (Key × T))
  | [] => some []
  | (x, y) :: r => match keyOf (rd μ x), keyed μ r with
    | some k, some ks => some ((k, y) :: ks)
    | _, _ => none
def mergeT (kvs more : List (Key × T)) : List (Key × T) := more.foldl (fun acc kv => putT acc kv.1 kv.2) kvs
theorem keyed_ok {w : Wd} (s : StOk K w) : ∀ {xs : List (T × T)} {vs : List (V × V)} {ks : List (Key × T)}, Paired (fun a b => w.t K a.1 b.1 ∧ w.t K a.2 b.2) xs vs → keyed w.μ xs = some ks → ∃ kvs : List (Key × V), vs = kvs.map (fun kv => (kV kv.1, kv.2)) ∧ Paired (fun p q => p.1 = q.1 ∧ w.t K p.2 q.2) ks kvs
  | [], _, _, .nil, e => by cases e; exact ⟨[], rfl, .nil⟩
  | (x, y) :: xs, (a, b) :: vs, ks, .cons h t, e => by
    unfold keyed at e
    split at e
    · rename_i k ks' h1 h2
      cases e
      obtain ⟨kvs, q1, q2⟩ := keyed_ok s t h2
      refine ⟨(k, b) :: kvs, ?_, .cons ⟨rfl, h.2⟩ q2⟩
      rw [q1, show a = kV k from keyOf_ok (rd_ok s h.1) h1]
      rfl
    · cases e
theorem merge_ok {R : T → V → Prop} : ∀ {ms : List (Key × T)} {ns : List (Key × V)} {xs : List (Key × T)} {vs : List (Key × V)}, Paired (fun p q => p.1 = q.1 ∧ R p.2 q.2) ms ns → Paired (fun p q => p.1 = q.1 ∧ R p.2 q.2) xs vs → Paired (fun p q => p.1 = q.1 ∧ R p.2 q.2) (mergeT xs ms) (mergeK vs ns)
  | _, _, _, _, .nil, h => h
  | _, _, xs, vs, .cons a t, h => by
    show Paired _ (mergeT (putT xs _ _) _) (mergeK (putK vs _ _) _)
    rw [a.1]
    exact merge_ok t (putT_ok a.2 h)
def cDisp (f : PF) : CF := fun ρ => mbind (f ρ) fun ps μ => mof ((keyed μ ps).bind fun ks => if ks.length ≤ 15 then some (Cell.dct (mergeT [] ks)) else none) μ
theorem cok_disp {trs : List (TE × TE)} {f : PF} (h : ∀ w σ ρ, EnvOk K w σ ρ → At K E w (tPairs trs σ w.H) (f ρ) (RP K)) : COk K E (tDisp trs) (cDisp f) := fun w σ ρ ev s r er Q q1 q2 => by
  intro p hp
  obtain ⟨n1, n2, n3, n4⟩ := new_ok s (o := .dK []) hp
  refine At.use (h { w with H := upd w.H p (.dK []) } σ ρ (ev.ext n2)) n1 er _ (fun ps w1 vs _ e1 x1 s1 hps => ?_) fun x w' cls d z e' => q2 x w' cls d z (n2.trans e')
  have e1 : mof ((keyed w1.μ ps).bind fun ks => if ks.length ≤ 15 then some (Cell.dct (mergeT [] ks)) else none) w1.μ = some r := e1
  have hpp : ({ w with H := upd w.H p (.dK []) } : Wd).H p = some (.dK []) := upd_same
  have p1 : w1.H p = some (.dK []) := x1.keep p _ hpp fun ⟨n, c, k, _⟩ => n3 (List.mem_of_getElem? k)
  have A1 : p ∉ w1.A := fun k => n3 (x1.new p k (by rw [hpp]; simp))
  have F1 : w1.F p = none := x1.capt p n4 (by rw [hpp]; simp) fun ⟨n, c, k, _⟩ => n3 (List.mem_of_getElem? k)
  unfold mof at e1
  split at e1
  · cases e1
  · rename_i c hc
    cases e1
    obtain ⟨ks, h1, h2⟩ := Option.bind_eq_some_iff.mp hc
    split at h2
    · rename_i h15
      cases h2
      obtain ⟨kvs, g1, g2⟩ := keyed_ok s1 hps h1
      refine ⟨p1, kvs, g1, by rw [← pd_len g2]; exact h15, ?_⟩
      exact q1 _ { w1 with H := upd w1.H p (.dK (mergeK [] kvs)) } (.ref p) rfl (out_ext (n2.trans x1) hp) (out_ok s1 A1 F1) ⟨p, rfl, hp, A1, rfl, F1, _, upd_same, merge_ok g2 .nil⟩
    · cases h2
theorem pc_disp {pos : Pos} {keys : List (Option Expr)} {values : List Expr} {trs : List (TE × TE)} {f : PF} (h : PPd K X E pos keys values trs f) (hall : keys.all (·.isSome) = true := by rfl) (hl : keys.length = values.length := by rfl) (h0 : keys ≠ [] := by (intro z; cases z)) (h15 : keys.length ≤ 15 := by decide) :
    PCr K X E (.Dict keys values pos) (tDisp trs) (cDisp f) := ⟨pe_disp h.pe hall hl h0 h15, cok_disp h.ok⟩
/-! ### f-strings -/
def fmtT (x : T) : Option T := match x with
  | .d (.str y) => if y.length ≤ SL then some (.d (.str y)) else none
  | .d (.int i) => if i.natAbs.log2 < 1920 then some (.d (.str (toString i))) else none
  | _ => none
def eFmt (f : EF) : EF := fun ρ => mbind (f ρ) fun x μ => mof (fmtT (rd μ x)) μ
theorem pd_fmt {a : Expr} {ta : TE} {fa : EF} {pos : Pos} (ha : PD K X E a ta fa) : PD K X E (.FormattedValue a (-1) none pos) (tFmt ta) (eFmt fa) := by
  refine ⟨pe_fmt ha.pe, fun w σ ρ ev => ?_⟩
  show At K E w (fun Q => ta σ w.H fun x H1 => (∃ y : Str, x = .str y ∧ y.length ≤ sizeLine ∧ Q (V.str y) H1) ∨ ∃ i : Int, x = .int i ∧ i.natAbs.log2 < 1920 ∧ Q (V.str (toString i)) H1) _ _
  refine At.bind rv_m (ha.ok w σ ρ ev) fun x v w1 e1 s1 hx => ?_
  have q := At.pure (K := K) (E := E) (w := w1) (t := fun Q => (∃ y : Str, v = .str y ∧ y.length ≤ sizeLine ∧ Q (.str y) w1.H) ∨ ∃ i : Int, v = .int i ∧ i.natAbs.log2 < 1920 ∧ Q (.str (toString i)) w1.H) (o := fmtT (rd w1.μ x)) (R := RV K) fun s b hb => by
    have hx := rd_ok s hx
    generalize rd w1.μ x = y at hb hx
    unfold fmtT at hb
    split at hb
    · rename_i z
      split at hb
      · rename_i hz
        cases hb
        exact ⟨.str z, rfl, fun Q q => .inl ⟨z, hx, le_SL hz, q⟩⟩
      · cases hb
    · rename_i i
      split at hb
      · rename_i hz
        cases hb
        exact ⟨.str (toString i), rfl, fun Q q => .inr ⟨i, hx, hz, q⟩⟩
      · cases hb
    · cases hb
  exact q
structure PJd (K : PySem.W.Frag) (X : Cx) (E : XK) (es : List Expr) (ts : List TE) (fs : List EF) : Prop where
  pe : PJ X es ts
  ok : Paired (EOk K E) ts fs
theorem pj_n : PJd K X E [] [] [] := ⟨.nil, .nil⟩
theorem pj_c {e : Expr} {t : TE} {f : EF} {es : List Expr} {ts : List TE} {fs : List EF} (h : PD K X E e t f) (r : PJd K X E es ts fs) : PJd K X E (e :: es) (t :: ts) (f :: fs) := ⟨.cons h.pe r.pe, .cons h.ok r.ok⟩
def jnT (acc : Str) (x : T) : Option Str := match x with
  | .d (.str y) => if (acc ++ y).length ≤ SL then some (acc ++ y) else none
  | _ => none
def eJs : List EF → Str → EF
  | [], acc, _ => mret (.d (.str acc))
  | f :: fs, acc, ρ => mbind (f ρ) fun x μ => match jnT acc (rd μ x) with
    | some a => eJs fs a ρ μ
    | none => none
def eJoined (fs : List EF) : EF := eJs fs Str.empty
theorem at_js : ∀ {ts : List TE} {fs : List EF} (acc : Str) {w : Wd} {σ : L2.St} {ρ : Rho}, Paired (EOk K E) ts fs → EnvOk K w σ ρ → At K E w (fun Q => tJs ts acc σ w.H fun out H1 => Q (.str out) H1) (eJs fs acc ρ) (RV K)
  | _, _, acc, w, σ, ρ, .nil, ev => At.ret (R := RV K) (a := T.d (.str acc)) (b := V.str acc) rfl
  | t :: ts, f :: fs, acc, w, σ, ρ, .cons h r, ev => by
    show At K E w (fun Q => t σ w.H fun x H1 => ∃ y : Str, x = .str y ∧ (acc ++ y).length ≤ sizeLine ∧ tJs ts (acc ++ y) σ H1 fun out H2 => Q (V.str out) H2) _ _
    refine At.bind rv_m (h w σ ρ ev) fun x v w1 e1 s1 hx => ?_
    intro s rr er Q q1 q2
    have hx := rd_ok s hx
    have er : (match jnT acc (rd w1.μ x) with
      | some a => eJs fs a ρ w1.μ
      | none => none) = some rr := er
    generalize rd w1.μ x = y at er hx
    split at er
    · rename_i a ha
      unfold jnT at ha
      split at ha
      · rename_i z
        split at ha
        · rename_i hz
          cases ha
          exact ⟨z, hx, le_SL hz, at_js (acc ++ z) r (ev.ext e1) s rr er Q q1 q2⟩
        · cases ha
      · cases ha
    · cases er
theorem pd_joined {v1 v2 : Expr} {rest : List Expr} {ts : List TE} {fs : List EF} {pos : Pos} (h : PJd K X E (v1 :: v2 :: rest) ts fs) : PD K X E (.JoinedStr (v1 :: v2 :: rest) pos) (fun σ H Q => tJs ts Str.empty σ H fun out H1 => Q (.str out) H1) (eJoined fs) :=
  ⟨pe_joined h.pe, fun w σ ρ ev => at_js Str.empty h.ok ev⟩
theorem pd_joined1 {e : Expr} {t : TE} {f : EF} {pos : Pos} (h : PD K X E e t f) : PD K X E (.JoinedStr [e] pos) t f := ⟨pe_joined1 h.pe, h.ok⟩
/-! ### zip of two lists -/
def zipD (xs : List T) : Option (List T) := match xs with
  | [x, y] => match lstD x, lstD y with
    | some as, some bs => match dTs [] as, dTs [] bs with
      | some ds, some es => some ((ds.zip es).map fun p => T.d (.tup [p.1, p.2]))
      | _, _ => none
    | _, _ => none
  | _ => none
def iZp (f : AF) : AF := fun ρ => mbind (f ρ) fun xs μ => mof (zipD (xs.map (rd μ))) μ
theorem dTs_nil {xs : List T} {ds : List D} (h : dTs [] xs = some ds) : xs = ds.map T.d := by
  induction xs generalizing ds with
  | nil => cases h; rfl
  | cons x r ih =>
    unfold dTs at h
    cases x with
    | p n => cases h
    | d y =>
      have h : (match dTs [] r with
        | some ys => some (y :: ys)
        | none => none) = some ds := by
        cases q : dTs [] r with
        | none => rw [q] at h; cases h
        | some ys => rw [q] at h; exact h
      cases q : dTs [] r with
      | none => rw [q] at h; cases h
      | some ys =>
        rw [q] at h
        cases h
        rw [ih q]
        rfl
/-- a new tuple of data that stands -/
theorem tup_new {w : Wd} (s : StOk K w) {p : Addr} {vs : List V} {ds : List D} (hp : w.H p = none) (h : Reps K w.F ds vs) : ∃ w2 : Wd, w2.H = upd w.H p (.tup vs) ∧ w2.μ = w.μ ∧ Ext w w2 ∧ StOk K w2 ∧ w2.t K (.d (.tup ds)) (.ref p) := by
  obtain ⟨n1, n2, n3, n4⟩ := new_ok s (o := .tup vs) hp
  have hF : ({ w with H := upd w.H p (.tup vs) } : Wd).F p = none := n4
  have hat : ({ w with H := upd w.H p (.tup vs) } : Wd).H p = some (.tup vs) := upd_same
  have sm := fz_same hF w.μ
  refine ⟨({ w with H := upd w.H p (.tup vs) } : Wd).fz p w.μ, rfl, rfl, ⟨n2.sub.trans sm, n2.pre, n2.dom, n2.keep, fun b h1 h2 h3 => ?_, n2.lv, n2.new⟩, ⟨fun b o' q => ?_, n1.len, n1.nd, n1.tr, fun n b c q1 q2 => ?_⟩, ?_⟩
  · show (if b = p then upd w.H p (.tup vs) p else w.F b) = none
    rw [if_neg (fun z => h2 (by rw [z]; exact hp))]
    exact h1
  · show upd w.H p (.tup vs) b = some o'
    have q : (if b = p then upd w.H p (.tup vs) p else w.F b) = some o' := q
    by_cases hb : b = p
    · rw [if_pos hb] at q
      rw [hb]
      exact q
    · rw [if_neg hb] at q
      exact n1.sub b o' q
  · refine (n1.cell n b c q1 q2).rep sm (List.prefix_refl _) (fun l => ?_) fun _ => rfl
    show (if b = p then upd w.H p (.tup vs) p else w.F b) = none
    rw [if_neg (fun z => n3 (by rw [← z]; exact List.mem_of_getElem? q1))]
    exact ((n1.cell n b c q1 q2).nn l).1
  · exact ⟨p, vs, rfl, fz_at hat, h.mono sm⟩
theorem it_zip {e e2 : Expr} {ta : TA} {f : AF} {p pos tpos : Pos} {elts : List Expr} {kk : Nat} (hm : X.mg "zip" = none) (ha : PL K X E [e, e2] ta f) (hg : Gl X "zip" := by rfl) (hK : X.K = K := by rfl)
    (hs : starEach [e, e2] X.env = (false, eval e X.env) :: starEach [e2] X.env := by rfl) (hpl : (backTo pos (starEach [e2] X.env)).any (·.1) = false := by rfl) :
    PIt K X E (.Tuple elts kk tpos) (.Call (.Name "zip" p) [e, e2] [] pos) (iZip K ta) (iZp f) := by
  subst hK
  refine ⟨pi_zip hg hm ha.pe hs hpl, fun w σ ρ ev s r er R q1 q2 => ?_⟩
  show ta σ w.H fun vs H1 => ∃ a b xs ys, vs = [.ref a, .ref b] ∧ SqL X.K H1 a xs ∧ SqL X.K H1 b ys ∧ R (Itz X.K a b) H1
  refine At.use (ha.ok w σ ρ ev) s er _ (fun xs w1 vs _ er2 e1 s2 hx => ?_) q2
  have er2 : mof (zipD (xs.map (rd w1.μ))) w1.μ = some r := er2
  have hx := rds_ok s2 hx
  generalize xs.map (rd w1.μ) = ys at er2 hx
  unfold zipD mof at er2
  split at er2
  · cases er2
  · rename_i zs hzs
    split at hzs
    · rename_i x y
      split at hzs
      · rename_i as bs h1 h2
        split at hzs
        · rename_i ds es h3 h4
          cases hzs
          cases er2
          obtain ⟨v, u, rfl, hv, hu⟩ := two_of hx
          obtain ⟨a, av, a1, a2, a3⟩ := lstD_ok hv h1
          obtain ⟨b, bv, b1, b2, b3⟩ := lstD_ok hu h2
          rw [dTs_nil h3] at a3
          rw [dTs_nil h4] at b3
          refine ⟨a, b, av, bv, by rw [a1, b1], s2.sub.seq a2, s2.sub.seq b2, ?_⟩
          have la := pd_len a3
          have lb := pd_len b3
          rw [List.length_map] at la lb
          have hn : ((ds.zip es).map fun p => T.d (.tup [p.1, p.2])).length = min av.length bv.length := by rw [List.length_map, List.length_zip, la, lb]
          refine q1 _ w1 rfl e1 s2 _ _ _ (walk_zip hn) fun w2 x2 s3 => ⟨⟨s3.sub.seq (x2.sub.seq a2), s3.sub.seq (x2.sub.seq b2)⟩, fun i x H' hi y => ?_⟩
          obtain ⟨T', x', y', rfl, hT, rfl, hx', hy'⟩ := y
          obtain ⟨t1, c1, c2⟩ := pd_get' a3 hx'
          obtain ⟨t2, d1, d2⟩ := pd_get' b3 hy'
          rw [List.getElem?_map] at c1 d1
          obtain ⟨g1, k1, k2⟩ := Option.map_eq_some_iff.mp c1
          obtain ⟨g2, l1, l2⟩ := Option.map_eq_some_iff.mp d1
          subst k2
          subst l2
          obtain ⟨w4, j1, j2, j3, j4, j5⟩ := tup_new s3 (ds := [g1, g2]) hT ⟨_, _, rfl, x2.t c2, _, _, rfl, x2.t d2, rfl⟩
          refine ⟨w4, _, j1, j2, j3, j4, ?_, j5⟩
          rw [List.getElem?_map, show (ds.zip es)[i]? = some (g1, g2) from List.getElem?_zip_eq_some.mpr ⟨k1, l1⟩]
          rfl
        · cases hzs
      · cases hzs
    · cases hzs
/-! ### a flat thing in a list -/
def gInL (n : Bool) : G2 := fun μ x y => match flat x, (lstOf μ y).bind fun ys => ys.mapM flat with
  | some u, some us => some (.d (.bl (if n then !inV u us else inV u us)))
  | _, _ => none
end
/-! ### a def that stands -/
structure Dx (K : PySem.W.Frag) (mg : Str → Option Value) (x : Str) (st : Stmt) (ps : List Str) : Prop where
  ex : ∃ (f : Addr) (fd : FuncData), L2.Fun K x x st f fd ∧ mg x = some (.ref f) ∧ Binds K fd ps []
section
variable {P : Program} {w : World} {K : PySem.W.Frag} {mg : Str → Option Value} {base : Heap}
theorem okD {x : Str} {st : Stmt} {N ps : List Str} {k : Nat} {body : SF} (D : Dx K mg x st ps) (S : FnScope N ps (defScope st))
    (hbody : ∀ (f : Addr) (cdv : Value) (A : Around) (outer : List Env) (s : Shared) (H : Hp) (E : XK), BdS (cxOf (L2.CX P w) P w K mg base N x (defScope st) f cdv A outer s H E) E k → ∃ t, PBl K (cxOf (L2.CX P w) P w K mg base N x (defScope st) f cdv A outer s H E) E (defBody st) t body) :
    Fn P w K mg base (k + 1) x ps.length (fnB N.length body) := by
  obtain ⟨f, fd, F, hm, hb⟩ := D.ex
  exact okM F S hm hb (hbody f)
theorem okD0 {x : Str} {st : Stmt} {ps : List Str} {k : Nat} (D : Dx K mg x st ps) : Fn P w K mg base k x ps.length (fun _ _ => none) := by
  obtain ⟨f, fd, F, hm, hb⟩ := D.ex
  exact okM0 F hm hb
end
end Fm
set_option Elab.async false
set_option linter.all false
set_option maxRecDepth 100000
/-! De: a dict beside what is none; != of nested data. -/
namespace Fm
open PySem L2 PySem.Spec PyProof.Rows PySem.SeqAt PySem.W
open AutoSeq1 (wpAny_loadPart')
open MeetsSeq MeetsSeq2 MeetsSeq3
section
variable {prog : Program} {w : World} {KK : Type} [DecidableEq KK] {knd : KeyKind prog w KK} {A : Around} {s : Shared} {a b : Addr} {ka kb : List (KK × Value)}
/-- the dict says NotImplemented to a thing that is no dict -/
theorem dictNo {E : Value → Shared → Prop} {x : Value} {ty : String} (da : s.heap.DictOf knd a ka) (tx : s.TypeIs x ty) (hs : isSubtype (.type ty) (.type "dict") = pure false) (Q : Value → Shared → Prop) (q : Q .notImplemented s) :
    wpAny (model prog w) A (call (.builtin "dict.__eq__") [.ref a, x]) Q E s := by
  refine wpAny_call_entry PySem.F.slot_dict_eq da.typeIs PySem.F.entry_dict_eq ?_ (PySem.F.args_dict_eq_2 _ _)
  show wpAny _ _ (Builtin.Dict.dictSlotArgs "__eq__" ⟨[.ref a, x], []⟩ >>= _) _ _ s
  refine wpAny_bind ?_
  unfold Builtin.Dict.dictSlotArgs
  refine wpAny_bind (wpAny_notOrdered_dict da.typeIs ?_)
  show wpAny _ _ (pure (Value.ref a, x)) _ _ s
  refine wpAny_pure ?_
  refine wpAny_bind (wpAny_isInstance (T := ty) tx hs ?_)
  simp only [Bool.not_false, if_true]
  refine wpAny_bind (wpAny_rule (wpAny_bind (wpAny_pure (wpAny_pure ⟨_, rfl, q⟩))))
end
section
variable (l : Addr) (c : Value) (es : Array DictEntry) (ep : Nat) (dd : Option Addr) (sl : Array (Option Value))
abbrev dcO : Obj := { cls := c, dict := dd, data := .dict es ep, slots := sl }
/-- a number, a text, a list, a tuple say NotImplemented to a dict -/
theorem intNo (i : Int) (t : Tok) : Meets (Builtin.«int.__eq__» ⟨[.int i t, .ref l], []⟩) fun _ R s => s.heap.get? l = some (dcO c es ep dd sl) ∧ R (.ok (.ret .notImplemented)) s :=
  .of_wp fun prog w A R s h => by
    obtain ⟨hp, g, d, tk, os⟩ := s
    obtain ⟨hl, h⟩ := h
    wp_walk using wpAny_loadPart' hl, wpAny_load hl
    exact ⟨_, rfl, h⟩
theorem strNo (i : Str) (t : Tok) : Meets (Builtin.«str.__eq__» ⟨[.str i t, .ref l], []⟩) fun _ R s => s.heap.get? l = some (dcO c es ep dd sl) ∧ R (.ok (.ret .notImplemented)) s :=
  .of_wp fun prog w A R s h => by
    obtain ⟨hp, g, d, tk, os⟩ := s
    obtain ⟨hl, h⟩ := h
    wp_walk using wpAny_loadPart' hl, wpAny_load hl
    exact ⟨_, rfl, h⟩
variable (m : Addr) (its : Array Value) (n : Nat) (dd2 : Option Addr) (sl2 : Array (Option Value))
theorem lstNo : Meets (Builtin.«list.__eq__» ⟨[.ref m, .ref l], []⟩) fun _ R s => s.heap.get? l = some (dcO (.type "dict") es ep dd sl) ∧ s.heap.get? m = some { cls := .type "list", dict := dd2, data := .seq its n, slots := sl2 } ∧ R (.ok (.ret .notImplemented)) s :=
  .of_wp fun prog w A R s h => by
    obtain ⟨hp, g, d, tk, os⟩ := s
    obtain ⟨hl, hm, h⟩ := h
    have f1 := PySem.F.sub_dict_list
    wp_walk using wpAny_loadPart' hm, wpAny_loadPart' hl
    exact ⟨_, rfl, h⟩
theorem tupNo : Meets (Builtin.«tuple.__eq__» ⟨[.ref m, .ref l], []⟩) fun _ R s => s.heap.get? l = some (dcO (.type "dict") es ep dd sl) ∧ s.heap.get? m = some { cls := .type "tuple", dict := dd2, data := .seq its n, slots := sl2 } ∧ R (.ok (.ret .notImplemented)) s :=
  .of_wp fun prog w A R s h => by
    obtain ⟨hp, g, d, tk, os⟩ := s
    obtain ⟨hl, hm, h⟩ := h
    have f1 := PySem.F.sub_dict_tuple
    wp_walk using wpAny_loadPart' hm, wpAny_loadPart' hl
    exact ⟨_, rfl, h⟩
end
section
variable {prog : Program} {w : World} {KK : Type} [DecidableEq KK] {knd : KeyKind prog w KK} {A : Around} {s : Shared} {a b : Addr} {ka kb : List (KK × Value)}
/-- from the rich comparison to the truth of it -/
theorem eqIn_ri {i : Int} {t : Tok} {k : Bool} (h : ∀ (E Q : Value → Shared → Prop), Q (.bool k) s → wpAny (model prog w) A (richCompare .Eq (.ref a) (.int i t)) Q E s) : EqIn prog w A s (.ref a) (.int i t) k := fun E Q q => by
  unfold eqBool
  exact wpAny_holding (wpAny_ite_split (fun hab => absurd (eq_of_beq hab) nofun) fun _ => wpAny_bind (h E _ (wpAny_truthy_bool q)))
theorem eqIn_ir {i : Int} {t : Tok} {k : Bool} (h : ∀ (E Q : Value → Shared → Prop), Q (.bool k) s → wpAny (model prog w) A (richCompare .Eq (.int i t) (.ref a)) Q E s) : EqIn prog w A s (.int i t) (.ref a) k := fun E Q q => by
  unfold eqBool
  exact wpAny_holding (wpAny_ite_split (fun hab => absurd (eq_of_beq hab) nofun) fun _ => wpAny_bind (h E _ (wpAny_truthy_bool q)))
theorem eqIn_rs {i : Str} {t : Tok} {k : Bool} (h : ∀ (E Q : Value → Shared → Prop), Q (.bool k) s → wpAny (model prog w) A (richCompare .Eq (.ref a) (.str i t)) Q E s) : EqIn prog w A s (.ref a) (.str i t) k := fun E Q q => by
  unfold eqBool
  exact wpAny_holding (wpAny_ite_split (fun hab => absurd (eq_of_beq hab) nofun) fun _ => wpAny_bind (h E _ (wpAny_truthy_bool q)))
theorem eqIn_sr {i : Str} {t : Tok} {k : Bool} (h : ∀ (E Q : Value → Shared → Prop), Q (.bool k) s → wpAny (model prog w) A (richCompare .Eq (.str i t) (.ref a)) Q E s) : EqIn prog w A s (.str i t) (.ref a) k := fun E Q q => by
  unfold eqBool
  exact wpAny_holding (wpAny_ite_split (fun hab => absurd (eq_of_beq hab) nofun) fun _ => wpAny_bind (h E _ (wpAny_truthy_bool q)))
theorem dct_rec (da : s.heap.DictOf knd a ka) : ∃ es ep, s.heap.get? a = some (dcO (.type "dict") es ep none #[]) := by
  obtain ⟨⟨cls, dd, data, sl⟩, es, ep, ho, ⟨h1, h2, h3⟩, hd, _⟩ := da
  simp only at h1 h2 h3 hd
  subst h1 h2 h3 hd
  exact ⟨es, ep, ho⟩
theorem tyne {x y : String} (h : x ≠ y) : Value.type x ≠ Value.type y := fun e => h (by injection e)
theorem cls_ne {l m : Addr} {o p : Obj} {x y : String} (hl : s.heap.get? l = some o) (hm : s.heap.get? m = some p) (ho : o.cls = .type x) (hp : p.cls = .type y) (h : x ≠ y) : l ≠ m := fun e => by
  subst e
  rw [hl] at hm
  cases hm
  rw [ho] at hp
  cases hp
  exact h rfl
theorem eq_di (da : s.heap.DictOf knd a ka) (i : Int) (t : Tok) (hu : A.units < cLine) : EqIn prog w A s (.ref a) (.int i t) false := by
  obtain ⟨es, ep, ho⟩ := dct_rec da
  exact eqIn_ri fun E Q q => rc_eq_decline_or (k := false) da.typeIs rfl (by decide) PySem.F.sub_int_dict PySem.F.slot_dict_eq PySem.F.slot_int_eq_refl (fun Q' q' => dictNo (x := .int i t) (ty := "int") da rfl PySem.F.sub_int_dict Q' q')
    (fun _ hq => call_meets PySem.F.slot_int_eq_refl rfl PySem.F.entry_int_eq (PySem.F.args_int_eq_2 _ _) (intNo a _ es ep _ _ i t) ⟨ho, hq⟩) (fun _ hq => wpAny_of_eq (rfl : isSame (.ref a) (.int i t) = pure false) hq) (.inr hu) q
theorem eq_id (da : s.heap.DictOf knd a ka) (i : Int) (t : Tok) (hu : A.units < cLine) : EqIn prog w A s (.int i t) (.ref a) false := by
  obtain ⟨es, ep, ho⟩ := dct_rec da
  exact eqIn_ir fun E Q q => rc_eq_decline_or (k := false) rfl da.typeIs (by decide) PySem.F.sub_dict_int PySem.F.slot_int_eq PySem.F.slot_dict_eq_refl
    (fun _ hq => call_meets PySem.F.slot_int_eq rfl PySem.F.entry_int_eq (PySem.F.args_int_eq_2 _ _) (intNo a _ es ep _ _ i t) ⟨ho, hq⟩) (fun Q' q' => dictNo (x := .int i t) (ty := "int") da rfl PySem.F.sub_int_dict Q' q') (fun _ hq => wpAny_of_eq (rfl : isSame (.int i t) (.ref a) = pure false) hq) (.inr hu) q
theorem eq_ds (da : s.heap.DictOf knd a ka) (i : Str) (t : Tok) (hu : A.units < cLine) : EqIn prog w A s (.ref a) (.str i t) false := by
  obtain ⟨es, ep, ho⟩ := dct_rec da
  exact eqIn_rs fun E Q q => rc_eq_decline_or (k := false) da.typeIs rfl (by decide) PySem.F.sub_str_dict PySem.F.slot_dict_eq PySem.F.slot_str_eq_refl (fun Q' q' => dictNo (x := .str i t) (ty := "str") da rfl PySem.F.sub_str_dict Q' q')
    (fun _ hq => call_meets PySem.F.slot_str_eq_refl rfl PySem.F.entry_str_eq (PySem.F.args_str_eq_2 _ _) (strNo a _ es ep _ _ i t) ⟨ho, hq⟩) (fun _ hq => wpAny_of_eq (rfl : isSame (.ref a) (.str i t) = pure false) hq) (.inr hu) q
theorem eq_sd (da : s.heap.DictOf knd a ka) (i : Str) (t : Tok) (hu : A.units < cLine) : EqIn prog w A s (.str i t) (.ref a) false := by
  obtain ⟨es, ep, ho⟩ := dct_rec da
  exact eqIn_sr fun E Q q => rc_eq_decline_or (k := false) rfl da.typeIs (by decide) PySem.F.sub_dict_str PySem.F.slot_str_eq PySem.F.slot_dict_eq_refl
    (fun _ hq => call_meets PySem.F.slot_str_eq rfl PySem.F.entry_str_eq (PySem.F.args_str_eq_2 _ _) (strNo a _ es ep _ _ i t) ⟨ho, hq⟩) (fun Q' q' => dictNo (x := .str i t) (ty := "str") da rfl PySem.F.sub_str_dict Q' q') (fun _ hq => wpAny_of_eq (rfl : isSame (.str i t) (.ref a) = pure false) hq) (.inr hu) q
theorem same_dt {l m : Addr} {o p : Obj} (hlm : l ≠ m) (hl : s.heap.get? l = some o) (hm : s.heap.get? m = some p) (hx : o.cls ≠ .type "tuple") {Q : Bool → Shared → Prop} {E : Value → Shared → Prop} (q : Q false s) : wpAny (model prog w) A (isSame (.ref l) (.ref m)) Q E s := by
  show wpAny _ A (if (l == m) = true then pure true else _) Q E s
  rw [if_neg (by simpa using hlm)]
  refine wpAny_bind (wpAny_load hl (wpAny_bind (wpAny_load hm ?_)))
  split
  · rename_i h1 _ _ _
    exact absurd h1 hx
  · exact wpAny_pure q
theorem eq_dl {l : Addr} {its : Array Value} (da : s.heap.DictOf knd a ka) (hl : s.heap.IsList l its) (hu : A.units < cLine) : EqIn prog w A s (.ref a) (.ref l) false := by
  obtain ⟨es, ep, ho⟩ := dct_rec da
  obtain ⟨⟨cls, dd, data, sl⟩, hm, hc, n, hd⟩ := id hl
  simp only at hc hd
  subst hc hd
  have tl : s.TypeIs (.ref l) "list" := ⟨_, hm, rfl⟩
  have hne := cls_ne ho hm rfl rfl (by decide)
  exact EqIn.of_refs hne fun E Q q => rc_eq_decline_or (k := false) da.typeIs tl (by decide) PySem.F.sub_list_dict PySem.F.slot_dict_eq PySem.F.slot_list_eq_refl (fun Q' q' => dictNo da tl PySem.F.sub_list_dict Q' q')
    (fun _ hq => call_meets PySem.F.slot_list_eq_refl tl PySem.F.entry_list_eq (PySem.F.args_list_eq_2 _ _) (lstNo a es ep _ _ l its n dd sl) ⟨ho, hm, hq⟩) (fun _ hq => same_dt hne ho hm (tyne (by decide)) hq) (.inr hu) q
theorem eq_ld {l : Addr} {its : Array Value} (da : s.heap.DictOf knd a ka) (hl : s.heap.IsList l its) (hu : A.units < cLine) : EqIn prog w A s (.ref l) (.ref a) false := by
  obtain ⟨es, ep, ho⟩ := dct_rec da
  obtain ⟨⟨cls, dd, data, sl⟩, hm, hc, n, hd⟩ := id hl
  simp only at hc hd
  subst hc hd
  have tl : s.TypeIs (.ref l) "list" := ⟨_, hm, rfl⟩
  have hne := cls_ne hm ho rfl rfl (by decide)
  exact EqIn.of_refs hne fun E Q q => rc_eq_decline_or (k := false) tl da.typeIs (by decide) PySem.F.sub_dict_list PySem.F.slot_list_eq PySem.F.slot_dict_eq_refl
    (fun _ hq => call_meets PySem.F.slot_list_eq tl PySem.F.entry_list_eq (PySem.F.args_list_eq_2 _ _) (lstNo a es ep _ _ l its n dd sl) ⟨ho, hm, hq⟩) (fun Q' q' => dictNo da tl PySem.F.sub_list_dict Q' q') (fun _ hq => same_dt hne hm ho (tyne (by decide)) hq) (.inr hu) q
theorem eq_dt {l : Addr} {its : Array Value} (da : s.heap.DictOf knd a ka) (hl : s.heap.IsTuple l its) (hu : A.units < cLine) : EqIn prog w A s (.ref a) (.ref l) false := by
  obtain ⟨es, ep, ho⟩ := dct_rec da
  obtain ⟨⟨cls, dd, data, sl⟩, hm, hc, n, hd⟩ := id hl
  simp only at hc hd
  subst hc hd
  have tl : s.TypeIs (.ref l) "tuple" := ⟨_, hm, rfl⟩
  have hne := cls_ne ho hm rfl rfl (by decide)
  exact EqIn.of_refs hne fun E Q q => rc_eq_decline_or (k := false) da.typeIs tl (by decide) PySem.F.sub_tuple_dict PySem.F.slot_dict_eq PySem.F.slot_tuple_eq_refl (fun Q' q' => dictNo da tl PySem.F.sub_tuple_dict Q' q')
    (fun _ hq => call_meets PySem.F.slot_tuple_eq_refl tl PySem.F.entry_tuple_eq (PySem.F.args_tuple_eq_2 _ _) (tupNo a es ep _ _ l its n dd sl) ⟨ho, hm, hq⟩) (fun _ hq => same_dt hne ho hm (tyne (by decide)) hq) (.inr hu) q
theorem eq_td {l : Addr} {its : Array Value} (da : s.heap.DictOf knd a ka) (hl : s.heap.IsTuple l its) (hu : A.units < cLine) : EqIn prog w A s (.ref l) (.ref a) false := by
  obtain ⟨es, ep, ho⟩ := dct_rec da
  obtain ⟨⟨cls, dd, data, sl⟩, hm, hc, n, hd⟩ := id hl
  simp only at hc hd
  subst hc hd
  have tl : s.TypeIs (.ref l) "tuple" := ⟨_, hm, rfl⟩
  have hne := cls_ne hm ho rfl rfl (by decide)
  exact EqIn.of_refs hne fun E Q q => rc_eq_decline_or (k := false) tl da.typeIs (by decide) PySem.F.sub_dict_tuple PySem.F.slot_tuple_eq PySem.F.slot_dict_eq_refl
    (fun _ hq => call_meets PySem.F.slot_tuple_eq tl PySem.F.entry_tuple_eq (PySem.F.args_tuple_eq_2 _ _) (tupNo a es ep _ _ l its n dd sl) ⟨ho, hm, hq⟩) (fun Q' q' => dictNo da tl PySem.F.sub_tuple_dict Q' q') (fun _ hq => wpAny_isSame_ref_other' hne hm ho (tyne (by decide)) hq) (.inr hu) q
end
end Fm
set_option Elab.async false
set_option linter.all false
set_option maxRecDepth 100000
namespace Fm
open PySem L2 PySem.Spec PyProof.Rows PySem.SeqAt PySem.W
open AutoSeq1 (wpAny_loadPart')
open MeetsSeq MeetsSeq2 MeetsSeq3 SeqRoads2
/-! ### != of lists, tuples, dicts, whatever their items are -/
abbrev sqO (ty : String) (its : Array Value) (n : Nat) (dd : Option Addr) (sl : Array (Option Value)) : Obj := { cls := .type ty, dict := dd, data := .seq its n, slots := sl }
section
variable {prog : Program} {w : World} {l m : Addr} {xs ys : Array Value} {n1 n2 : Nat} {d1 d2 : Option Addr} {s1 s2 : Array (Option Value)} {e : Nat → Bool}
theorem neLoop (hsz : xs.size = ys.size) : ∀ (k i : Nat), xs.size - i = k → MeetsIn prog w (Builtin.«list.__eq__.loop» ⟨[.ref l, .ref m, rawInt i, rawInt 3], []⟩)
      (fun A R s => s.heap.get? l = some (sqO "list" xs n1 d1 s1) ∧ s.heap.get? m = some (sqO "list" ys n2 d2 s2) ∧ (∀ j (h1 : j < xs.size) (h2 : j < ys.size), EqIn prog w A.in1 s xs[j] ys[j] (e j)) ∧ R (.ok (.ret (.bool (!((List.range xs.size).drop i).all e)))) s)
  | 0, i, hk => by
    rintro A R ⟨hp, g, d, tk, os⟩ ⟨hl, hb, he, h⟩
    wp_walk using wpAny_loadPart' hl, wpAny_loadPart' hb
    have hd : (List.range xs.size).drop i = [] := by simp; omega
    rw [hd] at h
    rw [show xs[((i : Nat) : Int).toNat]? = none by simp; omega, show ys[((i : Nat) : Int).toNat]? = none by simp; omega]
    wp_walk using wpAny_loadPart' hl, wpAny_loadPart' hb
    show R (.ok (.ret (.bool (xs.size != ys.size)))) _
    rw [hsz]
    simpa using h
  | k + 1, i, hk => by
    rintro A R ⟨hp, g, d, tk, os⟩ ⟨hl, hb, he, h⟩
    wp_walk using wpAny_loadPart' hl, wpAny_loadPart' hb
    have g1 : i < xs.size := by omega
    have g2 : i < ys.size := by omega
    have i1 : xs[((i : Nat) : Int).toNat]? = some xs[i] := by simp [g1]
    have i2 : ys[((i : Nat) : Int).toNat]? = some ys[i] := by simp [g2]
    have hd : (List.range xs.size).drop i = i :: (List.range xs.size).drop (i + 1) := by simp [List.drop_eq_getElem_cons, g1]
    rw [hd, List.all_cons] at h
    rw [i1, i2]
    refine wpAny_bind (he i g1 g2 _ _ ?_)
    cases hb' : e i
    · rw [hb'] at h
      wp_walk using wpAny_loadPart' hl, wpAny_loadPart' hb
      rw [i1, i2]
      wp_walk
      simpa using h
    · rw [hb'] at h
      wp_walk
      rw [show ((i : Int) + 1) = ((i + 1 : Nat) : Int) by push_cast; rfl]
      exact ⟨plainId_quiet plain_eq_loop _, codeAny_builtin entry_eq_loop (by
        rw [Around.under_plainId plain_eq_loop _]
        exact neLoop hsz k (i + 1) (by omega) A R _ ⟨hl, hb, he, by simpa using h⟩)⟩
theorem neList (hsz : xs.size = ys.size) : MeetsIn prog w (Builtin.«list.__ne__» ⟨[.ref l, .ref m], []⟩)
      (fun A R s => s.heap.get? l = some (sqO "list" xs n1 d1 s1) ∧ s.heap.get? m = some (sqO "list" ys n2 d2 s2) ∧ (∀ j (h1 : j < xs.size) (h2 : j < ys.size), EqIn prog w A.in1 s xs[j] ys[j] (e j)) ∧ R (.ok (.ret (.bool (!(List.range xs.size).all e)))) s) := by
  rintro A R ⟨hp, g, d, tk, os⟩ ⟨hl, hb, he, h⟩
  have f3 := AutoSeq1.sub_list_list
  have hne : ¬ (xs.size != ys.size) = true := by simp [hsz]
  wp_walk using wpAny_loadPart' hl, wpAny_loadPart' hb
  exact ⟨plainId_quiet plain_eq_loop _, codeAny_builtin entry_eq_loop (by
    rw [Around.under_plainId plain_eq_loop _]
    exact neLoop hsz _ 0 rfl A R _ ⟨hl, hb, he, by simpa using h⟩)⟩
theorem rcNe_lists {A : Around} {s : Shared} (hl : s.heap.IsList l xs) (hm : s.heap.IsList m ys) (hsz : xs.size = ys.size) (hu : A.units < cLine) (he : ∀ j (h1 : j < xs.size) (h2 : j < ys.size), EqIn prog w A.in1 s xs[j] ys[j] (e j)) (E Q : Value → Shared → Prop) (h : Q (.bool (!(List.range xs.size).all e)) s) :
    wpAny (model prog w) A (richCompare .NotEq (.ref l) (.ref m)) Q E s := by
  obtain ⟨⟨cls, dd, data, sl⟩, ho, hc, n, hd⟩ := id hl
  obtain ⟨⟨cls2, dd2, data2, sl2⟩, ho2, hc2, n2, hd2⟩ := id hm
  simp only at hc hd hc2 hd2
  subst hc hd hc2 hd2
  exact wpAny_richCompare_same_room (T := "list") (op := .NotEq) ⟨_, ho, rfl⟩ ⟨_, ho2, rfl⟩ PySem.F.slot_list_ne (call_meetsIn PySem.F.slot_list_ne ⟨_, ho, rfl⟩ PySem.F.entry_list_ne (PySem.F.args_list_ne_2 _ _) (neList hsz)
    ⟨ho, ho2, he, show Value.bool _ ≠ Value.notImplemented ∧ Q (.bool _) s from ⟨(fun x => nomatch x), h⟩⟩) hu
theorem neTuple : MeetsIn prog w (Builtin.«tuple.__ne__» ⟨[.ref l, .ref m], []⟩)
      (fun A R s => s.heap.get? l = some (sqO "tuple" xs n1 d1 s1) ∧ s.heap.get? m = some (sqO "tuple" ys n2 d2 s2) ∧ (∀ j (h1 : j < xs.size) (h2 : j < ys.size), EqIn prog w A.in1 s xs[j] ys[j] (e j)) ∧ R (.ok (.ret (.bool (!((List.range (min xs.size ys.size)).all e && xs.size == ys.size))))) s) := by
  rintro A R ⟨hp, g, d, tk, os⟩ ⟨hl, hb, he, h⟩
  have f2 := AutoSeq1.sub_tuple_tuple
  let Z := xs.toList.zip ys.toList
  have hZ : Z.length = min xs.size ys.size := by simp [Z]
  wp_walk using wpAny_loadPart' hl, wpAny_loadPart' hb, wpAny_forIn_list _ (fun rest b s' => b.1 = none ∧ s' = ⟨hp, g, d, tk, os⟩ ∧ ∃ i, rest = Z.drop i ∧ R (.ok (.ret (.bool (!(((List.range (min xs.size ys.size)).drop i).all e && xs.size == ys.size))))) ⟨hp, g, d, tk, os⟩) _
  case turn =>
    rintro ⟨y, x⟩ rest b s' ⟨hb', rfl, i, hz, hR⟩
    have hlt : i < Z.length := by
      rcases Nat.lt_or_ge i Z.length with h' | h'
      · exact h'
      · rw [List.drop_of_length_le h'] at hz
        cases hz
    have hm : i < min xs.size ys.size := hZ ▸ hlt
    have g1 : i < xs.size := Nat.lt_of_lt_of_le hm (Nat.min_le_left _ _)
    have g2 : i < ys.size := Nat.lt_of_lt_of_le hm (Nat.min_le_right _ _)
    rw [List.drop_eq_getElem_cons hlt] at hz
    injection hz with hyx hrest
    have hy : y = xs[i] := by simpa [Z] using congrArg Prod.fst hyx
    have hx : x = ys[i] := by simpa [Z] using congrArg Prod.snd hyx
    subst hy hx
    rw [show (List.range (min xs.size ys.size)).drop i = i :: (List.range (min xs.size ys.size)).drop (i + 1) by simp [List.drop_eq_getElem_cons, hm], List.all_cons] at hR
    refine wpAny_bind (he i g1 g2 _ _ ?_)
    cases hy : e i
    · rw [hy] at hR
      wp_walk
      simpa using hR
    · rw [hy] at hR
      wp_walk
      exact ⟨rfl, rfl, i + 1, hrest, by simpa using hR⟩
  case fin =>
    rintro ⟨b1, b2⟩ s' ⟨hb', rfl, i, hz, hR⟩
    simp only at hb'
    subst hb'
    have hge : min xs.size ys.size ≤ i := by
      rcases Nat.lt_or_ge i Z.length with h' | h'
      · rw [List.drop_eq_getElem_cons h'] at hz
        cases hz
      · exact hZ ▸ h'
    rw [List.drop_of_length_le (by simpa using hge)] at hR
    wp_walk
    simpa [Builtin.Tuple.tupleCompareSizes, bne] using hR
  case h =>
    exact ⟨rfl, rfl, 0, rfl, by simpa using h⟩
theorem rcNe_tuples {A : Around} {s : Shared} (hl : s.heap.IsTuple l xs) (hm : s.heap.IsTuple m ys) (hu : A.units < cLine) (he : ∀ j (h1 : j < xs.size) (h2 : j < ys.size), EqIn prog w A.in1 s xs[j] ys[j] (e j)) (E Q : Value → Shared → Prop) (h : Q (.bool (!((List.range (min xs.size ys.size)).all e && xs.size == ys.size))) s) :
    wpAny (model prog w) A (richCompare .NotEq (.ref l) (.ref m)) Q E s := by
  obtain ⟨⟨cls, dd, data, sl⟩, ho, hc, n, hd⟩ := id hl
  obtain ⟨⟨cls2, dd2, data2, sl2⟩, ho2, hc2, n2, hd2⟩ := id hm
  simp only at hc hd hc2 hd2
  subst hc hd hc2 hd2
  exact wpAny_richCompare_same_room (T := "tuple") (op := .NotEq) ⟨_, ho, rfl⟩ ⟨_, ho2, rfl⟩ PySem.F.slot_tuple_ne (call_meetsIn PySem.F.slot_tuple_ne ⟨_, ho, rfl⟩ PySem.F.entry_tuple_ne (PySem.F.args_tuple_ne_2 _ _) neTuple
    ⟨ho, ho2, he, show Value.bool _ ≠ Value.notImplemented ∧ Q (.bool _) s from ⟨(fun x => nomatch x), h⟩⟩) hu
end
section
variable {prog : Program} {w : World} {KK : Type} [DecidableEq KK] {knd : KeyKind prog w KK} {A : Around} {s : Shared} {a b : Addr} {ka kb : List (KK × Value)}
theorem rcNe_dicts {r : Bool} (ha : (a == sysModules) = false) (hb : (b == sysModules) = false) (da : s.heap.DictOf knd a ka) (db : s.heap.DictOf knd b kb) (hu : A.units < cLine) (hits : ka.length = kb.length → KeqHitsIn prog w A.in1 s kb ka r) (E Q : Value → Shared → Prop) (h : Q (.bool (!(ka.length == kb.length && r))) s) :
    wpAny (model prog w) A (richCompare .NotEq (.ref a) (.ref b)) Q E s := by
  refine wpAny_richCompare_same_room (op := .NotEq) da.typeIs db.typeIs PySem.F.slot_dict_ne (wpAny_call_entry PySem.F.slot_dict_ne da.typeIs PySem.F.entry_dict_ne ?_ (PySem.F.args_dict_ne_2 _ _)) hu
  show wpAny _ _ (Builtin.Dict.dictSlotArgs "__ne__" ⟨[.ref a, .ref b], []⟩ >>= _) _ _ s
  refine wpAny_bind ?_
  unfold Builtin.Dict.dictSlotArgs
  refine wpAny_bind (wpAny_notOrdered_dict da.typeIs (wpAny_pure ?_))
  refine wpAny_bind (wpAny_isInstance (T := "dict") db.typeIs PySem.F.sub_dict_dict ?_)
  simp only [Bool.not_true, Bool.false_eq_true, if_false]
  refine wpAny_bind (wpAny_pure (wpAny_bind (wpAny_pure (wpAny_bind (keq_samePairsIn ha hb da db hits (wpAny_pure ⟨_, rfl, (fun x => by cases x), ?_⟩))))))
  simpa using h
end
end Fm
set_option Elab.async false
set_option linter.all false
set_option maxRecDepth 100000
namespace Fm
open PySem L2 PySem.Spec PyProof.Rows PySem.SeqAt PySem.W

/-! ### == of data, whatever it holds -/
/-- what is compared at once -/
def feq : D → D → Option Bool
  | .non, .non => some true
  | .bl a, .bl b => some (a == b)
  | .int a, .int b => some (a == b)
  | .str a, .str b => some (a == b)
  | .int _, .str _ => some false
  | .str _, .int _ => some false
  | .non, .int _ => some false
  | .non, .str _ => some false
  | .int _, .non => some false
  | .str _, .non => some false
  | _, _ => none
def zipO (f : D → D → Option Bool) : List D → List D → Option Bool
  | x :: xs, y :: ys => match f x y, zipO f xs ys with
    | some a, some b => some (a && b)
    | _, _ => none
  | _, _ => some true
def valD (ls : List (Key × D)) (k : Key) : Option D := (ls.find? fun kv => decide (kv.1 = k)).map (·.2)
def dctO (f : D → D → Option Bool) (ls : List (Key × D)) : List (Key × D) → Option Bool
  | [] => some true
  | (k, x) :: r => match valD ls k with
    | none => (dctO f ls r).map fun _ => false
    | some y => match f x y, dctO f ls r with
      | some a, some b => some (a && b)
      | _, _ => none
def ki : D → Nat
  | .int _ => 1
  | .str _ => 2
  | .lst _ => 3
  | .tup _ => 4
  | .dct _ => 5
  | _ => 0
/-- things of two kinds, one of them with parts -/
def mixed (x y : D) : Bool := decide (ki x ≠ 0 ∧ ki y ≠ 0 ∧ ki x ≠ ki y ∧ (3 ≤ ki x ∨ 3 ≤ ki y))
def deq : Nat → D → D → Option Bool
  | 0, x, y => feq x y
  | n + 1, x, y => match x, y with
    | .lst xs, .lst ys => if xs.length = ys.length then zipO (deq n) xs ys else some false
    | .tup xs, .tup ys => (zipO (deq n) xs ys).map fun b => b && decide (xs.length = ys.length)
    | .dct ks, .dct ls => (dctO (deq n) ls ks).map fun b => decide (ks.length = ls.length) && b
    | x, y => if mixed x y = true then some false else feq x y
section
variable {X : Cx} {pins : List (Addr × Obj)} {σ : L2.St} {H : Hp} {s : Shared}
theorem feq_at {A : Around} {d e : D} {x y : V} {v u : Value} {b : Bool} (h : feq d e = some b) (rd : Rep X.K H d x) (re : Rep X.K H e y) (rx : RelV x v) (ry : RelV y u) : EqAt A s v u b := by
  unfold feq at h
  split at h
  all_goals first
    | cases h
    | skip
  all_goals cases (show x = _ from rd)
  all_goals cases (show y = _ from re)
  · cases rx; cases ry; exact EqAt.same _
  · cases rx; cases ry; exact EqAt.bool_bool _ _
  · obtain ⟨t, rfl⟩ := rx; obtain ⟨t', rfl⟩ := ry; exact EqAt.int_int _ _ _ _
  · obtain ⟨t, rfl⟩ := rx; obtain ⟨t', rfl⟩ := ry; exact EqAt.str_str _ _ _ _
  · obtain ⟨t, rfl⟩ := rx; obtain ⟨t', rfl⟩ := ry; exact EqAt.int_str _ _ _ _
  · obtain ⟨t, rfl⟩ := rx; obtain ⟨t', rfl⟩ := ry; exact EqAt.str_int _ _ _ _
  · cases rx; obtain ⟨t', rfl⟩ := ry; exact EqAt.none_int _ _
  · cases rx; obtain ⟨t', rfl⟩ := ry; exact EqAt.none_str _ _
  · obtain ⟨t, rfl⟩ := rx; cases ry; exact EqAt.int_none _ _
  · obtain ⟨t, rfl⟩ := rx; cases ry; exact EqAt.str_none _ _
/-- data that stands at one place is equal -/
theorem feq_same {d e : D} {x : V} {b : Bool} (h : feq d e = some b) (rd : Rep X.K H d x) (re : Rep X.K H e x) : b = true := by
  unfold feq at h
  split at h
  all_goals first
    | cases h
    | skip
  all_goals cases (show x = _ from rd)
  all_goals first
    | rfl
    | cases (show _ = _ from re)
  all_goals simp
theorem zipO_same {f : D → D → Option Bool} (hf : ∀ d e x b, f d e = some b → Rep X.K H d x → Rep X.K H e x → b = true) : ∀ {xs ys : List D} {vs : List V} {b : Bool}, zipO f xs ys = some b → Reps X.K H xs vs → Reps X.K H ys vs → b = true
  | [], _, _, b, h, _, _ => by cases h; rfl
  | x :: xs, [], _, b, h, _, _ => by cases h; rfl
  | x :: xs, y :: ys, vs, b, h, hx, hy => by
    obtain ⟨v, r, rfl, h1, h2⟩ := hx
    obtain ⟨v', r', e, h3, h4⟩ := hy
    cases e
    unfold zipO at h
    split at h
    · rename_i p q hp hq
      cases h
      rw [hf _ _ _ _ hp h1 h3, zipO_same hf hq h2 h4]
      rfl
    · cases h
theorem Reps.len {xs : List D} {vs : List V} (h : Reps X.K H xs vs) : xs.length = vs.length := pd_len (Reps.paired.mp h)
theorem RepK.keys {ks : List (Key × D)} {ws : List (Key × V)} (h : RepK X.K H ks ws) : ks.map (·.1) = ws.map (·.1) := by
  have h := RepK.paired.mp h
  induction h with
  | nil => rfl
  | cons a b ih => rw [List.map_cons, List.map_cons, a.1, ih (RepK.paired.mpr b)]
theorem valD_rep {ls : List (Key × D)} {ws : List (Key × V)} (h : RepK X.K H ls ws) (k : Key) : match valD ls k with
    | some y => ∃ v, valV ws k = some v ∧ Rep X.K H y v
    | none => valV ws k = none := by
  have h := RepK.paired.mp h
  induction h with
  | nil => rfl
  | @cons a b l1 l2 q t ih =>
    obtain ⟨j, y⟩ := a
    obtain ⟨j', v⟩ := b
    obtain ⟨e, r⟩ := q
    cases e
    by_cases ek : j = k
    · rw [show valD ((j, y) :: l1) k = some y by simp [valD, List.find?_cons, ek]]
      exact ⟨v, valV_pos ek, r⟩
    · rw [show valD ((j, y) :: l1) k = valD l1 k by simp [valD, List.find?_cons, ek], valV_neg ek]
      exact ih (RepK.paired.mpr t)
theorem valV_mem {ws : List (Key × V)} (hn : (ws.map (·.1)).Nodup) {k : Key} {v : V} (h : (k, v) ∈ ws) : valV ws k = some v := by
  induction ws with
  | nil => cases h
  | cons p r ih =>
    obtain ⟨j, u⟩ := p
    obtain ⟨h1, h2⟩ := List.nodup_cons.mp hn
    rcases List.mem_cons.mp h with e | e
    · cases e
      exact valV_pos rfl
    · have hne : j ≠ k := fun z => h1 (by show j ∈ _; rw [z]; exact List.mem_map.mpr ⟨_, e, rfl⟩)
      rw [valV_neg hne]
      exact ih h2 e
theorem dctO_same {f : D → D → Option Bool} (hf : ∀ d e x b, f d e = some b → Rep X.K H d x → Rep X.K H e x → b = true) {ls : List (Key × D)} {ws : List (Key × V)} (hl : RepK X.K H ls ws) (hn : (ws.map (·.1)).Nodup) : ∀ {ks : List (Key × D)} {us : List (Key × V)} {b : Bool}, dctO f ls ks = some b → RepK X.K H ks us → (∀ p ∈ us, p ∈ ws) → b = true
  | [], _, b, h, _, _ => by cases h; rfl
  | (k, x) :: r, us, b, h, hx, hs => by
    obtain ⟨v, us', rfl, h1, h2⟩ := hx
    have hv : valV ws k = some v := valV_mem hn (hs _ List.mem_cons_self)
    have hr := valD_rep hl k
    unfold dctO at h
    cases hd : valD ls k with
    | none =>
      rw [hd] at hr
      rw [hr] at hv
      cases hv
    | some y =>
      rw [hd] at hr h
      obtain ⟨v', e1, e2⟩ := hr
      rw [e1] at hv
      cases hv
      have h : (match f x y, dctO f ls r with | some a, some b => some (a && b) | _, _ => none) = some b := h
      split at h
      · rename_i p q hp hq
        cases h
        rw [hf _ _ _ _ hp h1 e2, dctO_same hf hl hn hq h2 fun p hp => hs p (List.mem_cons_of_mem _ hp)]
        rfl
      · cases h
theorem dict_at (I : Inv X pins σ H s) {a : Addr} {ws : List (Key × V)} (h : H a = some (.dK ws)) : (a == sysModules) = false ∧ ∃ va, KV ws va ∧ s.heap.DictOf (mixKind X.prog X.w) a va ∧ (ws.map (·.1)).Nodup := by
  obtain ⟨_, ya, va, ra, da⟩ := (show ObjOk X.prog X.w H s.heap a (.dK ws) from I.hok a _ h)
  refine ⟨ya, va, ra, da, ?_⟩
  rw [ra.keys]
  obtain ⟨o, es, ep, _, _, _, _, _, hn⟩ := da
  exact hn
theorem ki_rep {d e : D} {x : V} (rd : Rep X.K H d x) (re : Rep X.K H e x) (hd : ki d ≠ 0) (he : ki e ≠ 0) : ki d = ki e := by
  cases d <;> first | (exact absurd rfl hd) | skip
  all_goals cases e <;> first | (exact absurd rfl he) | rfl | skip
  all_goals simp only [Rep] at rd re
  all_goals try subst rd
  all_goals try subst re
  all_goals try (obtain ⟨a, vs, e1, h1, _⟩ := rd; subst e1)
  all_goals try (obtain ⟨a', vs', e2, h2, _⟩ := re)
  all_goals first
    | cases e2
    | skip
  all_goals first
    | (rw [h1] at h2; cases h2)
    | skip
  all_goals first
    | cases re
    | (obtain ⟨a, vs, e1, _⟩ := rd; cases e1)
theorem deq_same (I : Inv X pins σ H s) : ∀ (n : Nat) (d e : D) (x : V) (b : Bool), deq n d e = some b → Rep X.K H d x → Rep X.K H e x → b = true
  | 0, d, e, x, b, h, rd, re => feq_same (H := H) (X := X) h rd re
  | n + 1, d, e, x, b, h, rd, re => by
    have ih := deq_same I n
    unfold deq at h
    split at h
    · rename_i xs ys
      obtain ⟨a, vs, rfl, h1, h2⟩ := rd
      obtain ⟨a', vs', e1, h3, h4⟩ := re
      cases e1
      rw [h1] at h3
      cases h3
      rw [if_pos (h2.len.trans h4.len.symm)] at h
      exact zipO_same ih h h2 h4
    · rename_i xs ys
      obtain ⟨a, vs, rfl, h1, h2⟩ := rd
      obtain ⟨a', vs', e1, h3, h4⟩ := re
      cases e1
      rw [h1] at h3
      cases h3
      obtain ⟨c, hc, e⟩ := Option.map_eq_some_iff.mp h
      rw [← e, zipO_same ih hc h2 h4, h2.len, h4.len]
      simp
    · rename_i ks ls
      obtain ⟨a, vs, rfl, h1, h2⟩ := rd
      obtain ⟨a', vs', e1, h3, h4⟩ := re
      cases e1
      rw [h1] at h3
      cases h3
      obtain ⟨c, hc, e⟩ := Option.map_eq_some_iff.mp h
      have hn := (dict_at I h1).2
      obtain ⟨_, _, _, hn⟩ := hn
      have hkl : ks.length = ls.length := (pd_len (RepK.paired.mp h2)).trans (pd_len (RepK.paired.mp h4)).symm
      rw [← e, dctO_same ih h4 hn hc h2 fun p hp => hp]
      simp [hkl]
    · split at h
      · rename_i hm
        obtain ⟨m1, m2, m3, _⟩ := of_decide_eq_true hm
        exact absurd (ki_rep rd re m1 m2) m3
      · exact feq_same (H := H) (X := X) h rd re
/-! the comparison itself -/
theorem zip_run {f : D → D → Option Bool} {A : Around} (hf : ∀ d e x y v u b, f d e = some b → Rep X.K H d x → Rep X.K H e y → RelV x v → RelV y u → EqIn X.prog X.w A s v u b) : ∀ {xs ys : List D} {vs ws : List V} {us zs : List Value} {b : Bool}, zipO f xs ys = some b → Reps X.K H xs vs → Reps X.K H ys ws → Vals vs us → Vals ws zs →
    ∃ g : Nat → Bool, (∀ j (h1 : j < us.length) (h2 : j < zs.length), EqIn X.prog X.w A s us[j] zs[j] (g j)) ∧ (List.range (min us.length zs.length)).all g = b
  | [], ys, vs, ws, us, zs, b, h, hx, hy, r1, r2 => by
    cases h
    cases hx
    cases r1
    exact ⟨fun _ => true, fun j h1 => absurd h1 (Nat.not_lt_zero j), by simp⟩
  | x :: xs, [], vs, ws, us, zs, b, h, hx, hy, r1, r2 => by
    cases h
    cases hy
    cases r2
    exact ⟨fun _ => true, fun j _ h2 => absurd h2 (Nat.not_lt_zero j), by simp⟩
  | x :: xs, y :: ys, vs, ws, us, zs, b, h, hx, hy, r1, r2 => by
    obtain ⟨v, r, rfl, h1, h2⟩ := hx
    obtain ⟨v', r', rfl, h3, h4⟩ := hy
    cases r1 with
    | cons q1 t1 =>
      cases r2 with
      | cons q2 t2 =>
        unfold zipO at h
        split at h
        · rename_i p q hp hq
          cases h
          obtain ⟨g, g1, g2⟩ := zip_run hf hq h2 h4 t1 t2
          refine ⟨fun j => match j with | 0 => p | j + 1 => g j, fun j j1 j2 => ?_, ?_⟩
          · cases j with
            | zero => exact hf _ _ _ _ _ _ _ hp h1 h3 q1 q2
            | succ j => exact g1 j (Nat.lt_of_succ_lt_succ j1) (Nat.lt_of_succ_lt_succ j2)
          · rw [List.length_cons, List.length_cons, Nat.succ_min_succ, List.range_succ_eq_map, List.all_cons, List.all_map, ← g2]
            rfl
        · cases h
theorem dct_run {f : D → D → Option Bool} {A : Around} (hf : ∀ d e x y v u b, f d e = some b → Rep X.K H d x → Rep X.K H e y → RelV x v → RelV y u → EqIn X.prog X.w A s v u b) {ls : List (Key × D)} {ws : List (Key × V)} {vb : List (Key × Value)} (hl : RepK X.K H ls ws) (rb : KV ws vb) : ∀ {ks : List (Key × D)} {us : List (Key × V)} {va : List (Key × Value)} {b : Bool}, dctO f ls ks = some b → RepK X.K H ks us → KV us va →
    KeqHitsIn X.prog X.w A s vb va b
  | [], us, va, b, h, hx, ra => by
    cases h
    cases hx
    cases (show Paired _ [] va from ra)
    exact .nil
  | (k, x) :: r, us, va, b, h, hx, ra => by
    obtain ⟨v, us', rfl, h1, h2⟩ := hx
    cases (show Paired _ ((k, v) :: us') va from ra) with
    | @cons _ q _ va' e t =>
      obtain ⟨k', z⟩ := q
      obtain ⟨e1, e2⟩ := e
      have e1 : k = k' := e1
      cases e1
      have hr := valD_rep hl k
      have rr := rb.val k
      unfold dctO at h
      cases hd : valD ls k with
      | none =>
        rw [hd] at h hr
        have hr : valV ws k = none := hr
        rw [hr] at rr
        obtain ⟨c, hc, e⟩ := Option.map_eq_some_iff.mp h
        rw [← e]
        refine .miss ?_
        cases hv : valueAt vb k with
        | none => rfl
        | some y => rw [hv] at rr; exact rr.elim
      | some y =>
        rw [hd] at h hr
        obtain ⟨v', e3, e4⟩ := hr
        rw [e3] at rr
        obtain ⟨u, hu, ru⟩ := rr.some_of
        have h : (match f x y, dctO f ls r with | some a, some b => some (a && b) | _, _ => none) = some b := h
        split at h
        · rename_i p q hp hq
          cases h
          exact .hit hu (hf _ _ _ _ _ _ _ hp h1 e4 e2 ru) (dct_run hf hl rb hq h2 t)
        · cases h
theorem list_at (I : Inv X pins σ H s) {a : Addr} {vs : List V} (h : H a = some (.lst vs)) : ∃ us, Vals vs us ∧ s.heap.IsList a us.toArray := by
  obtain ⟨us, r1, p1, _⟩ := I.list (SqL.of h)
  exact ⟨us, r1, p1.isList⟩
theorem tuple_at (I : Inv X pins σ H s) {a : Addr} {vs : List V} (h : H a = some (.tup vs)) : ∃ us, Vals vs us ∧ s.heap.IsTuple a us.toArray := by
  obtain ⟨us, r1, p1, _⟩ := I.tuple (SqT.of h)
  exact ⟨us, r1, p1⟩
theorem refs_run (I : Inv X pins σ H s) {A : Around} {a a' : Addr} {b : Bool} (hs : a = a' → b = true) (h : ∀ (E Q : Value → Shared → Prop), Q (.bool b) s → wpAny (model X.prog X.w) A (richCompare .Eq (.ref a) (.ref a')) Q E s) : EqIn X.prog X.w A s (.ref a) (.ref a') b := by
  by_cases e : a = a'
  · rw [hs e]
    subst e
    exact (EqAt.same _).inModel _ _
  · exact EqIn.of_refs e h
/-- the rich comparison of two things with parts -/
theorem rc_run (I : Inv X pins σ H s) {n : Nat} {A : Around} (hu : A.units + (n + 1) < cLine) (ih : ∀ d e x y v u b, deq n d e = some b → Rep X.K H d x → Rep X.K H e y → RelV x v → RelV y u → EqIn X.prog X.w A.in1 s v u b) {d e : D} {a a' : Addr} {b : Bool} (hk : ki d = ki e) (hd : 3 ≤ ki d) (h : deq (n + 1) d e = some b) (rd : Rep X.K H d (.ref a)) (re : Rep X.K H e (.ref a')) (E Q : Value → Shared → Prop) :
    (Q (.bool b) s → wpAny (model X.prog X.w) A (richCompare .Eq (.ref a) (.ref a')) Q E s) ∧ (Q (.bool (!b)) s → wpAny (model X.prog X.w) A (richCompare .NotEq (.ref a) (.ref a')) Q E s) := by
  have hu0 : A.units < cLine := by omega
  unfold deq at h
  split at h
  · rename_i xs ys
    obtain ⟨_, vs, e1, h1, h2⟩ := rd
    cases e1
    obtain ⟨_, ws, e1, h3, h4⟩ := re
    cases e1
    obtain ⟨us, r1, p1⟩ := list_at I h1
    obtain ⟨zs, r2, p2⟩ := list_at I h3
    have l1 := h2.len
    have l2 := h4.len
    have l3 := r1.length
    have l4 := r2.length
    split at h
    · rename_i hlen
      obtain ⟨g, g1, g2⟩ := zip_run ih h h2 h4 r1 r2
      have hsz : us.toArray.size = zs.toArray.size := by simp; omega
      have he : ∀ j (j1 : j < us.toArray.size) (j2 : j < zs.toArray.size), EqIn X.prog X.w A.in1 s us.toArray[j] zs.toArray[j] (g j) := fun j j1 j2 => by simpa using g1 j (by simpa using j1) (by simpa using j2)
      have hb : (List.range us.toArray.size).all g = b := by
        rw [← g2]
        congr 2
        simp
        omega
      exact ⟨fun q => rcIn_lists p1 p2 hsz hu0 he (by rw [hb]; exact q), fun q => rcNe_lists p1 p2 hsz hu0 he E Q (by rw [hb]; exact q)⟩
    · rename_i hlen
      cases h
      have hsz : (us.toArray.size != zs.toArray.size) = true := by simp; omega
      exact ⟨fun q => RcAt.lists_lengths p1 p2 hsz hu0 _ _ E Q q, fun q => RcNeAt.lists_lengths p1 p2 hsz hu0 _ _ E Q q⟩
  · rename_i xs ys
    obtain ⟨_, vs, e1, h1, h2⟩ := rd
    cases e1
    obtain ⟨_, ws, e1, h3, h4⟩ := re
    cases e1
    obtain ⟨us, r1, p1⟩ := tuple_at I h1
    obtain ⟨zs, r2, p2⟩ := tuple_at I h3
    have l1 := h2.len
    have l2 := h4.len
    have l3 := r1.length
    have l4 := r2.length
    obtain ⟨c, hc, e⟩ := Option.map_eq_some_iff.mp h
    obtain ⟨g, g1, g2⟩ := zip_run ih hc h2 h4 r1 r2
    have he : ∀ j (j1 : j < us.toArray.size) (j2 : j < zs.toArray.size), EqIn X.prog X.w A.in1 s us.toArray[j] zs.toArray[j] (g j) := fun j j1 j2 => by simpa using g1 j (by simpa using j1) (by simpa using j2)
    have hb : ((List.range (min us.toArray.size zs.toArray.size)).all g && us.toArray.size == zs.toArray.size) = b := by
      rw [← e, ← g2, List.size_toArray, List.size_toArray, l1, l2, l3, l4]
      congr 1
    exact ⟨fun q => rcIn_tuples p1 p2 hu0 he (by rw [hb]; exact q), fun q => rcNe_tuples p1 p2 hu0 he E Q (by rw [hb]; exact q)⟩
  · rename_i ks ls
    obtain ⟨_, vs, e1, h1, h2⟩ := rd
    cases e1
    obtain ⟨_, ws, e1, h3, h4⟩ := re
    cases e1
    obtain ⟨ya, va, ra, da, _⟩ := dict_at I h1
    obtain ⟨yb, vb, rb, db, _⟩ := dict_at I h3
    obtain ⟨c, hc, e⟩ := Option.map_eq_some_iff.mp h
    have hits := dct_run ih h4 rb hc h2 ra
    have l1 : ks.length = vs.length := pd_len (RepK.paired.mp h2)
    have l2 : ls.length = ws.length := pd_len (RepK.paired.mp h4)
    have l3 := ra.length
    have l4 := rb.length
    have hb : (va.length == vb.length && c) = b := by
      rw [← e, l1, l2, l3, l4]
      congr 1
    exact ⟨fun q => keq_eqIn (knd := mixKind X.prog X.w) ya yb da db hu0 (fun _ => hits) (by rw [hb]; exact q), fun q => rcNe_dicts (knd := mixKind X.prog X.w) ya yb da db hu0 (fun _ => hits) E Q (by rw [hb]; exact q)⟩
  · rename_i n1 n2 n3
    exfalso
    cases d <;> simp only [ki] at hk hd <;> first | omega | skip
    all_goals cases e <;> simp only [ki] at hk <;> first | omega | skip
    · exact n1 _ _ rfl rfl
    · exact n2 _ _ rfl rfl
    · exact n3 _ _ rfl rfl
theorem rep_ref {d : D} {x : V} (h : Rep X.K H d x) (hd : 3 ≤ ki d) : ∃ a, x = .ref a := by
  cases d <;> simp only [ki] at hd <;> first | omega | skip
  all_goals
    obtain ⟨a, _, e, _⟩ := h
    exact ⟨a, e⟩
theorem mixed_run (I : Inv X pins σ H s) {A : Around} (hu : A.units < cLine) {d e : D} {x y : V} {v u : Value} (hm : mixed d e = true) (rd : Rep X.K H d x) (re : Rep X.K H e y) (rx : RelV x v) (ry : RelV y u) : EqIn X.prog X.w A s v u false := by
  obtain ⟨m1, m2, m3, m4⟩ := of_decide_eq_true hm
  clear hm
  cases d with
  | int i =>
    cases rd
    obtain ⟨t, rfl⟩ := rx
    cases e with
    | lst ys => obtain ⟨a, ws, rfl, h, _⟩ := re; cases ry; obtain ⟨us, _, p⟩ := list_at I h; exact (EqAt.int_list _ _ p hu).inModel _ _
    | tup ys => obtain ⟨a, ws, rfl, h, _⟩ := re; cases ry; obtain ⟨us, _, p⟩ := tuple_at I h; exact (EqAt.int_tuple _ _ p hu).inModel _ _
    | dct ys => obtain ⟨a, ws, rfl, h, _⟩ := re; cases ry; obtain ⟨_, va, _, p, _⟩ := dict_at I h; exact eq_id p _ _ hu
    | _ => simp [ki] at m1 m2 m3 m4
  | str i =>
    cases rd
    obtain ⟨t, rfl⟩ := rx
    cases e with
    | lst ys => obtain ⟨a, ws, rfl, h, _⟩ := re; cases ry; obtain ⟨us, _, p⟩ := list_at I h; exact (EqAt.str_list _ _ p hu).inModel _ _
    | tup ys => obtain ⟨a, ws, rfl, h, _⟩ := re; cases ry; obtain ⟨us, _, p⟩ := tuple_at I h; exact (EqAt.str_tuple _ _ p hu).inModel _ _
    | dct ys => obtain ⟨a, ws, rfl, h, _⟩ := re; cases ry; obtain ⟨_, va, _, p, _⟩ := dict_at I h; exact eq_sd p _ _ hu
    | _ => simp [ki] at m1 m2 m3 m4
  | lst xs =>
    obtain ⟨a, ws, rfl, h, _⟩ := rd
    cases rx
    obtain ⟨us, _, p⟩ := list_at I h
    cases e with
    | int i => cases re; obtain ⟨t, rfl⟩ := ry; exact (EqAt.list_int _ _ p hu).inModel _ _
    | str i => cases re; obtain ⟨t, rfl⟩ := ry; exact (EqAt.list_str _ _ p hu).inModel _ _
    | tup ys => obtain ⟨a, ws, rfl, h', _⟩ := re; cases ry; obtain ⟨us, _, p'⟩ := tuple_at I h'; exact (EqAt.list_tuple p p' hu).inModel _ _
    | dct ys => obtain ⟨a, ws, rfl, h', _⟩ := re; cases ry; obtain ⟨_, va, _, p', _⟩ := dict_at I h'; exact eq_ld p' p hu
    | _ => simp [ki] at m1 m2 m3 m4
  | tup xs =>
    obtain ⟨a, ws, rfl, h, _⟩ := rd
    cases rx
    obtain ⟨us, _, p⟩ := tuple_at I h
    cases e with
    | int i => cases re; obtain ⟨t, rfl⟩ := ry; exact (EqAt.tuple_int _ _ p hu).inModel _ _
    | str i => cases re; obtain ⟨t, rfl⟩ := ry; exact (EqAt.tuple_str _ _ p hu).inModel _ _
    | lst ys => obtain ⟨a, ws, rfl, h', _⟩ := re; cases ry; obtain ⟨us, _, p'⟩ := list_at I h'; exact (EqAt.tuple_list p p' hu).inModel _ _
    | dct ys => obtain ⟨a, ws, rfl, h', _⟩ := re; cases ry; obtain ⟨_, va, _, p', _⟩ := dict_at I h'; exact eq_td p' p hu
    | _ => simp [ki] at m1 m2 m3 m4
  | dct xs =>
    obtain ⟨a, ws, rfl, h, _⟩ := rd
    cases rx
    obtain ⟨_, va, _, p, _⟩ := dict_at I h
    cases e with
    | int i => cases re; obtain ⟨t, rfl⟩ := ry; exact eq_di p _ _ hu
    | str i => cases re; obtain ⟨t, rfl⟩ := ry; exact eq_ds p _ _ hu
    | lst ys => obtain ⟨a, ws, rfl, h', _⟩ := re; cases ry; obtain ⟨us, _, p'⟩ := list_at I h'; exact eq_dl p p' hu
    | tup ys => obtain ⟨a, ws, rfl, h', _⟩ := re; cases ry; obtain ⟨us, _, p'⟩ := tuple_at I h'; exact eq_dt p p' hu
    | _ => simp [ki] at m1 m2 m3 m4
  | _ => exact absurd rfl m1
theorem deq_run (I : Inv X pins σ H s) : ∀ (n : Nat) (A : Around), A.units + n < cLine → ∀ (d e : D) (x y : V) (v u : Value) (b : Bool), deq n d e = some b → Rep X.K H d x → Rep X.K H e y → RelV x v → RelV y u → EqIn X.prog X.w A s v u b
  | 0, A, hu, d, e, x, y, v, u, b, h, rd, re, rx, ry => (feq_at h rd re rx ry).inModel _ _
  | n + 1, A, hu, d, e, x, y, v, u, b, h, rd, re, rx, ry => by
    by_cases hk : ki d = ki e ∧ 3 ≤ ki d
    · obtain ⟨a, rfl⟩ := rep_ref rd hk.2
      obtain ⟨a', rfl⟩ := rep_ref re (hk.1 ▸ hk.2)
      cases (show v = Value.ref a from rx)
      cases (show u = Value.ref a' from ry)
      refine refs_run I (fun e1 => ?_) fun E Q q => (rc_run I hu (deq_run I n A.in1 (by show A.units + 1 + n < cLine; omega)) hk.1 hk.2 h rd re E Q).1 q
      subst e1
      exact deq_same I _ _ _ _ _ h rd re
    · unfold deq at h
      split at h
      · exact absurd ⟨rfl, (by simp [ki])⟩ hk
      · exact absurd ⟨rfl, (by simp [ki])⟩ hk
      · exact absurd ⟨rfl, (by simp [ki])⟩ hk
      · split at h
        · rename_i hm
          cases h
          exact mixed_run I (by omega) hm rd re rx ry
        · exact (feq_at h rd re rx ry).inModel _ _
end
/-! the operators -/
def rEqT (K : PySem.W.Frag) (n : Bool) : R2 := fun x y H Q => ∃ d e b, Rep K H d x ∧ Rep K H e y ∧ ki d = ki e ∧ 3 ≤ ki d ∧ deq 60 d e = some b ∧ Q (.bl (if n then !b else b)) H
theorem op_eqT {X : Cx} (hu : X.A.units + 64 < cLine) : OpR X (compareOp .Eq) (rEqT X.K false) := by
  intro pins s σ H x y v u Q I rx ry h
  obtain ⟨d, e, b, rd, re, hk, h3, hb, q⟩ := h
  obtain ⟨a, rfl⟩ := rep_ref rd h3
  obtain ⟨a', rfl⟩ := rep_ref re (hk ▸ h3)
  cases (show v = Value.ref a from rx)
  cases (show u = Value.ref a' from ry)
  exact (rc_run I (A := X.A) (n := 59) (by omega) (deq_run I 59 X.A.in1 (by show X.A.units + 1 + 59 < cLine; omega)) hk h3 hb rd re _ _).1 ⟨.bl b, H, I, rfl, q⟩
theorem op_neT {X : Cx} (hu : X.A.units + 64 < cLine) : OpR X (compareOp .NotEq) (rEqT X.K true) := by
  intro pins s σ H x y v u Q I rx ry h
  obtain ⟨d, e, b, rd, re, hk, h3, hb, q⟩ := h
  obtain ⟨a, rfl⟩ := rep_ref rd h3
  obtain ⟨a', rfl⟩ := rep_ref re (hk ▸ h3)
  cases (show v = Value.ref a from rx)
  cases (show u = Value.ref a' from ry)
  exact (rc_run I (A := X.A) (n := 59) (by omega) (deq_run I 59 X.A.in1 (by show X.A.units + 1 + 59 < cLine; omega)) hk h3 hb rd re _ _).2 ⟨.bl (!b), H, I, rfl, q⟩
def gEqT (n : Bool) : G2 := fun _ x y => match x, y with
  | .d d, .d e => if ki d = ki e ∧ 3 ≤ ki d then (deq 60 d e).map fun b => .d (.bl (if n then !b else b)) else none
  | _, _ => none
theorem opv_eqT {K : PySem.W.Frag} (n : Bool) : OpV K (rEqT K n) (gEqT n) := fun w x y vx vy z s hx hy e => by
  unfold gEqT at e
  split at e
  · rename_i d f
    split at e
    · rename_i hk
      obtain ⟨b, hb, e⟩ := Option.map_eq_some_iff.mp e
      subst e
      exact ⟨_, rfl, fun Q q => ⟨d, f, b, Rep.mono s.sub (show Rep K w.F d vx from hx), Rep.mono s.sub (show Rep K w.F f vy from hy), hk.1, hk.2, hb, q⟩⟩
    · cases e
  · cases e
def gEq (n : Bool) : G2 := fun μ x y => g2or (gEqF n) (gEqT n) μ x y
theorem od_eq {K : PySem.W.Frag} {X : Cx} (hu : X.A.units + 64 < cLine) (hK : X.K = K := by rfl) : OpD K X (compareOp .Eq) (qOr rEq (rEqT K false)) (gEq false) := by
  subst hK
  exact OpD.or od_eqF ⟨op_eqT hu, opv_eqT false⟩
theorem od_ne {K : PySem.W.Frag} {X : Cx} (hu : X.A.units + 64 < cLine) (hK : X.K = K := by rfl) : OpD K X (compareOp .NotEq) (qOr rNe (rEqT K true)) (gEq true) := by
  subst hK
  exact OpD.or od_neF ⟨op_neT hu, opv_eqT true⟩
end Fm
set_option Elab.async false
set_option linter.all false
set_option maxRecDepth 100000
namespace Fm
open PySem L2 PySem.Spec PyProof.Rows
theorem Bd.h64 {X : Cx} {E : XK} {k : Nat} (B : Bd X E k) : X.A.units + 64 < cLine := by have := B.room.un; omega
/-! ### a comprehension with two fors -/
def compI (g1 : GF) (tt1 : TF) (el : EF) (ρ1 : Rho) : List T → List T → M (List T)
  | [], acc => mret acc
  | x :: r, acc => mbind (noex (g1 x ρ1)) fun ρ2 => mbind (noex (tt1 ρ2)) fun b => if b = true then mbind (noex (el ρ2)) fun y => if acc.length < SL then compI g1 tt1 el ρ1 r (acc ++ [y]) else mstuck else compI g1 tt1 el ρ1 r acc
def compL2 (g : GF) (tt : TF) (vs1 : List Nat) (it1 : AF) (g1 : GF) (tt1 : TF) (el : EF) (ρ : Rho) : List T → List T → M Cell
  | [], acc => mret (.lst acc)
  | x :: r, acc => mbind (noex (g x ρ)) fun ρ1 => mbind (noex (tt ρ1)) fun b => if b = true then mbind (noex (it1 ρ1)) fun ys => mbind (compI g1 tt1 el (wipeR ρ1 vs1) ys acc) fun acc' => compL2 g tt vs1 it1 g1 tt1 el ρ r acc' else compL2 g tt vs1 it1 g1 tt1 el ρ r acc
def cComp2 (vs vs1 : List Nat) (it : AF) (g : GF) (tt : TF) (it1 : AF) (g1 : GF) (tt1 : TF) (el : EF) : CF := fun ρ => mbind (it ρ) fun xs => compL2 g tt vs1 it1 g1 tt1 el (wipeR ρ vs) xs []
/-- what is collected so far -/
structure Col (K : PySem.W.Frag) (w' : Wd) (D : Addr) (acc : List T) (w1 : Wd) : Prop where
  e : Ext w' w1
  s : StOk K w1
  a : D ∉ w1.A
  f : w1.F D = none
  h : ∃ us, w1.H D = some (.lst us) ∧ Paired (w1.t K) acc us
section
variable {K : PySem.W.Frag} {w' w1 w2 : Wd} {D : Addr} {acc : List T}
theorem Col.nl (c : Col K w' D acc w1) : ¬ w1.live D := fun ⟨_, _, k, _⟩ => c.a (List.mem_of_getElem? k)
theorem Col.ext (c : Col K w' D acc w1) (e2 : Ext w1 w2) (s2 : StOk K w2) : Col K w' D acc w2 := by
  obtain ⟨us, h1, h2⟩ := c.h
  exact ⟨c.e.trans e2, s2, fun k => c.a (e2.new D k (by rw [h1]; simp)), e2.capt D c.f (by rw [h1]; simp) c.nl, us, e2.keep D _ h1 c.nl, pd_imp (fun _ _ q => e2.t q) h2⟩
theorem Col.push (c : Col K w' D acc w1) (hD : w'.H D = none) {y : T} {v : V} (hy : w1.t K y v) {us : List V} (hu : w1.H D = some (.lst us)) : Col K w' D (acc ++ [y]) { w1 with H := upd w1.H D (.lst (us ++ [v])) } := by
  obtain ⟨us', h1, h2⟩ := c.h
  rw [h1] at hu
  cases hu
  exact ⟨out_ext (o := .lst (us ++ [v])) c.e hD, out_ok c.s c.a c.f, c.a, c.f, us ++ [v], upd_same, pd_app h2 (.cons hy .nil)⟩
theorem Col.zero (s : StOk K w') (hD : w'.H D = none) : Col K w' D [] { w' with H := upd w'.H D (.lst []) } := by
  obtain ⟨n1, n2, n3, n4⟩ := new_ok s (o := .lst []) hD
  exact ⟨n2, n1, n3, n4, [], upd_same, .nil⟩
end
/-- the inner loop's walk -/
theorem lc_it1 {J : It} {n : Nat} {G : Hp → Prop} {Y : Nat → Hp → V → Hp → Prop} (w : Walk J n G Y) {H0 : Hp} {Body : V → Hp → (Hp → Prop) → Prop} {Qd : Hp → Prop} (Pv : Nat → Hp → Prop) (h0 : Pv 0 H0) (hG : ∀ i H, i ≤ n → Pv i H → G H)
    (hs : ∀ i x H H', i < n → Pv i H → Y i H x H' → Body x H' (Pv (i + 1))) (hd : ∀ H, Pv n H → Qd H) :
    ∃ W : Nat → Nat → Hp → Prop, (∃ m, W 0 m H0) ∧ ∀ i m H, W i m H → (J.stop i H ∧ Qd H) ∨ (J.go i H ∧ ∃ Nx : Hp → Prop, (∀ H', Nx H' → ∃ m', m' < m ∧ W (i + 1) m' H') ∧ ∀ x H', J.yld i H x H' → Body x H' Nx) := by
  refine ⟨fun i m H => m = n - i ∧ i ≤ n ∧ Pv i H, ⟨n, by simp, Nat.zero_le _, h0⟩, ?_⟩
  rintro i m H ⟨rfl, hi, p⟩
  have q := hG i H hi p
  by_cases hlt : i < n
  · exact .inr ⟨w.goes i H hlt q, Pv (i + 1), fun H' p' => ⟨n - (i + 1), by omega, rfl, hlt, p'⟩, fun x H' y => hs i x H H' hlt p (w.yields i H x H' hlt q y)⟩
  · have e : i = n := by omega
    subst e
    exact .inl ⟨w.stops H q, hd H p⟩
section
variable {K : PySem.W.Frag} {E : XK}
/-- an iterable that stands whatever is written beside it -/
def IOkF (K : PySem.W.Frag) (E : XK) (wi : TI) (f : AF) : Prop := ∀ w σ ρ, EnvOk K w σ ρ → StOk K w → ∀ r, f ρ w.μ = some r → ∀ R : It → Hp → Prop,
  (∀ xs w' vs, r = .ok xs w'.μ → Ext w w' → StOk K w' → Paired (w'.t K) xs vs → ∀ J G Y, Walk J xs.length G Y → (∀ w1 : Wd, Same w'.F w1.F → StOk K w1 → G w1.H) → (∀ (i : Nat) (H : Hp) (x : V) (H' : Hp), Y i H x H' → H' = H ∧ vs[i]? = some x) → R J w'.H) →
  (∀ x w' cls d, r = .ex x w'.μ → Ext w w' → StOk K w' → ExnOk K w' x cls d → E cls d w'.H) → wi σ w.H R
structure PItF (K : PySem.W.Frag) (X : Cx) (E : XK) (tg e : Expr) (wi : TI) (f : AF) : Prop where
  pe : PI X tg e wi
  ok : IOkF K E wi f
theorem itF_lst {X : Cx} {tg e : Expr} {t : TE} {f : EF} (h : PD K X E e t f) (hK : X.K = K := by rfl) : PItF K X E tg e (iList K t) (iLst f) := by
  subst hK
  refine ⟨pi_list h.pe, fun w σ ρ ev s r er R q1 q2 => ?_⟩
  show t σ w.H fun x H1 => ∃ a, x = .ref a ∧ (∃ xs, SqL X.K H1 a xs) ∧ R (Itl X.K a) H1
  refine At.use (h.ok w σ ρ ev) s er _ (fun x w1 v _ er2 e1 s2 hx => ?_) q2
  have er2 : mof (lstD (rd w1.μ x)) w1.μ = some r := er2
  unfold mof at er2
  cases hl : lstD (rd w1.μ x) with
  | none => rw [hl] at er2; cases er2
  | some xs =>
    rw [hl] at er2
    cases er2
    obtain ⟨a, vs, h1, h2, h3⟩ := lstD_ok (rd_ok s2 hx) hl
    refine ⟨a, h1, ⟨vs, s2.sub.seq h2⟩, ?_⟩
    have wk := walk_list (K := X.K) (a := a) (xs := vs)
    rw [← pd_len h3] at wk
    exact q1 xs w1 vs rfl e1 s2 h3 _ _ _ wk (fun w2 e2 s3 => s3.sub.seq (e2.seq h2)) fun i H x H' y => y
theorem env_mono {w w' : Wd} {σ : L2.St} {ρ : Rho} (h : EnvOk K w σ ρ) (e : Same w.F w'.F) (p : w.A <+: w'.A) : EnvOk K w' σ ρ := ⟨h.1, fun i x hx => by
  obtain ⟨v, h1, h2⟩ := h.2 i x hx
  exact ⟨v, h1, RepT.mono e p h2⟩⟩
theorem comp_inner {is1 vs1 : List Nat} {g1 : TG} {tt1 : TT} {te : TE} {gf1 : GF} {tf1 : TF} {el : EF} (hg : GOk K is1 g1 gf1) (hgn : GNo gf1) (ht : BOk K E0 tt1 tf1) (he : EOk K E0 te el) (hs : ∀ i ∈ is1, i ∈ vs1)
    {w' w4 : Wd} {σ2 : L2.St} {ρ1 : Rho} {ys acc acc' : List T} {us : List V} {μ' : Mu} {J : It} {G : Hp → Prop} {Y : Nat → Hp → V → Hp → Prop} {D : Addr} (hD : w'.H D = none) (ev : EnvOk K w4 σ2 ρ1) (c4 : Col K w' D acc w4) (wk : Walk J ys.length G Y) (hp : Paired (w4.t K) ys us)
    (hG : ∀ w1 : Wd, Same w4.F w1.F → StOk K w1 → G w1.H) (hY : ∀ (i : Nat) (H : Hp) (x : V) (H' : Hp), Y i H x H' → H' = H ∧ us[i]? = some x)
    (er : compI gf1 tf1 el (wipeR ρ1 vs1) ys acc w4.μ = some (.ok acc' μ')) {Nx : Hp → Prop} (hN : ∀ w5, Col K w' D acc' w5 → w5.μ = μ' → Nx w5.H) :
    ∃ W1 : Nat → Nat → Hp → Prop, (∃ m, W1 0 m w4.H) ∧ ∀ j k H, W1 j k H → (J.stop j H ∧ Nx H) ∨ (J.go j H ∧ ∃ Nx1 : Hp → Prop, (∀ H', Nx1 H' → ∃ k', k' < k ∧ W1 (j + 1) k' H') ∧ ∀ x H', J.yld j H x H' → g1 x (wipe σ2 vs1) H' fun σ3 H5 => wipe σ3 vs1 = wipe σ2 vs1 ∧ tt1 σ3 H5 fun b H6 =>
        if b = true then te σ3 H6 fun y H7 => ∃ acc, H7 D = some (.lst acc) ∧ acc.length < sizeLine ∧ Nx1 (upd H7 D (.lst (acc ++ [y]))) else Nx1 H6) := by
  refine lc_it1 wk (Body := fun x H' Nx1 => g1 x (wipe σ2 vs1) H' fun σ3 H5 => wipe σ3 vs1 = wipe σ2 vs1 ∧ tt1 σ3 H5 fun b H6 =>
        if b = true then te σ3 H6 fun y H7 => ∃ acc, H7 D = some (.lst acc) ∧ acc.length < sizeLine ∧ Nx1 (upd H7 D (.lst (acc ++ [y]))) else Nx1 H6)
    (fun i H => ∃ (w1 : Wd) (ac : List T), w1.H = H ∧ Col K w' D ac w1 ∧ Same w4.F w1.F ∧ w4.A <+: w1.A ∧ compI gf1 tf1 el (wipeR ρ1 vs1) (ys.drop i) ac w1.μ = some (.ok acc' μ')) ?_ ?_ ?_ ?_
  · exact ⟨w4, acc, rfl, c4, Same.refl _, List.prefix_refl _, er⟩
  · rintro i H _ ⟨w1, ac, rfl, c1, e1, p1, _⟩
    exact hG w1 e1 c1.s
  · rintro i x H H' hlt ⟨w1, ac, rfl, c1, e1, p1, h6⟩ y
    obtain ⟨rfl, hx⟩ := hY i w1.H x H' y
    obtain ⟨t, hx, hr⟩ := pd_get' hp hx
    have hdrop : ys.drop i = t :: ys.drop (i + 1) := by
      obtain ⟨hl, e⟩ := List.getElem?_eq_some_iff.mp hx
      rw [List.drop_eq_getElem_cons hl, e]
    rw [hdrop] at h6
    have h6 : mbind (noex (gf1 t (wipeR ρ1 vs1))) (fun ρ2 => mbind (noex (tf1 ρ2)) fun b => if b = true then mbind (noex (el ρ2)) fun y => if ac.length < SL then compI gf1 tf1 el (wipeR ρ1 vs1) (ys.drop (i + 1)) (ac ++ [y]) else mstuck else compI gf1 tf1 el (wipeR ρ1 vs1) (ys.drop (i + 1)) ac) w1.μ = some (.ok acc' μ') := h6
    unfold mbind at h6
    cases hgf : noex (gf1 t (wipeR ρ1 vs1)) w1.μ with
    | none => rw [hgf] at h6; cases h6
    | some rg =>
      obtain ⟨ρ2, m2, rfl, hgf2⟩ := noex_some hgf
      obtain ⟨ρ3, hρ⟩ := hgn _ _ _ _ hgf2
      cases hρ
      rw [hgf] at h6
      have ev1 := env_mono ev e1 p1
      refine hg w1 (wipe σ2 vs1) (wipeR ρ1 vs1) t x ρ2 (env_wipe ev1 vs1) c1.s (RepT.mono e1 p1 hr) hgf2 _ fun σ3 hσ3 hk => ⟨wipe_keeps hk hs, ?_⟩
      refine At.use (E := E0) (at_noex (ht w1 σ3 ρ2 hσ3)) c1.s h6 _ (fun b w3 b' _ h9 e3 s3 hb => ?_) fun a w' cls d z _ _ _ => by cases z
      cases hb
      have c3 := c1.ext e3 s3
      have e3' : Same w4.F w3.F := e1.trans e3.sub
      have p3 : w4.A <+: w3.A := p1.trans e3.pre
      cases b with
      | false => exact ⟨w3, ac, rfl, c3, e3', p3, h9⟩
      | true =>
        refine At.use (E := E0) (at_noex (he w3 σ3 ρ2 (hσ3.ext e3))) s3 h9 _ (fun y w5 v _ h10 e5 s5 hy => ?_) fun a w' cls d z _ _ _ => by cases z
        have c5 := c3.ext e5 s5
        obtain ⟨us5, hu, hp5⟩ := c5.h
        by_cases hl : ac.length < SL
        · have h10 : (if ac.length < SL then compI gf1 tf1 el (wipeR ρ1 vs1) (ys.drop (i + 1)) (ac ++ [y]) else mstuck) w5.μ = some (.ok acc' μ') := h10
          rw [if_pos hl] at h10
          refine ⟨us5, hu, by rw [← pd_len hp5, sizeLine_eq]; exact hl, _, ac ++ [y], rfl, c5.push hD hy hu, e3'.trans e5.sub, p3.trans e5.pre, h10⟩
        · have h10 : (if ac.length < SL then compI gf1 tf1 el (wipeR ρ1 vs1) (ys.drop (i + 1)) (ac ++ [y]) else mstuck) w5.μ = some (.ok acc' μ') := h10
          rw [if_neg hl] at h10
          cases h10
  · rintro H ⟨w1, ac, rfl, c1, e1, p1, h6⟩
    rw [List.drop_length] at h6
    have h6 : some (Rs.ok ac w1.μ) = some (.ok acc' μ') := h6
    injection h6 with h6
    injection h6 with h7 h8
    subst h7
    exact hN w1 c1 h8
theorem mb_noex {α β : Type} {f : M α} {g : α → M β} {μ : Mu} {r : Rs β} (h : mbind (noex f) g μ = some r) : ∃ a m, f μ = some (.ok a m) ∧ g a m = some r := by
  unfold mbind at h
  cases hf : noex f μ with
  | none => rw [hf] at h; cases h
  | some q =>
    obtain ⟨a, m, rfl, e⟩ := noex_some hf
    rw [hf] at h
    exact ⟨a, m, e, h⟩
theorem compI_ok {g1 : GF} {tt1 : TF} {el : EF} {ρ1 : Rho} : ∀ {ys acc : List T} {μ : Mu} {r : Rs (List T)}, compI g1 tt1 el ρ1 ys acc μ = some r → ∃ a m, r = .ok a m
  | [], acc, μ, r, h => by cases h; exact ⟨_, _, rfl⟩
  | x :: ys, acc, μ, r, h => by
    obtain ⟨ρ2, m, _, h⟩ := mb_noex h
    obtain ⟨b, m2, _, h⟩ := mb_noex h
    cases b with
    | false => exact compI_ok (ys := ys) h
    | true =>
      obtain ⟨y, m3, _, h⟩ := mb_noex h
      by_cases hl : acc.length < SL
      · have h : (if acc.length < SL then compI g1 tt1 el ρ1 ys (acc ++ [y]) else mstuck) m3 = some r := h
        rw [if_pos hl] at h
        exact compI_ok h
      · have h : (if acc.length < SL then compI g1 tt1 el ρ1 ys (acc ++ [y]) else mstuck) m3 = some r := h
        rw [if_neg hl] at h
        cases h
theorem cok_comp2 {vs vs1 is is1 : List Nat} {wi wi1 : TI} {g g1 : TG} {tt tt1 : TT} {te : TE} {it it1 : AF} {gf gf1 : GF} {tf tf1 : TF} {el : EF} (hi : IOk K E wi it) (hg : GOk K is g gf) (hgn : GNo gf) (ht : BOk K E0 tt tf) (hs : ∀ i ∈ is, i ∈ vs)
    (hi1 : IOkF K E0 wi1 it1) (hg1 : GOk K is1 g1 gf1) (hgn1 : GNo gf1) (ht1 : BOk K E0 tt1 tf1) (he : EOk K E0 te el) (hs1 : ∀ i ∈ is1, i ∈ vs1) :
    COk K E (tLc2 wi g tt wi1 g1 tt1 te vs vs1) (cComp2 vs vs1 it gf tf it1 gf1 tf1 el) := fun w σ ρ ev s r er Q q1 q2 => by
  have er : mbind (it ρ) (fun xs => compL2 gf tf vs1 it1 gf1 tf1 el (wipeR ρ vs) xs []) w.μ = some r := er
  unfold mbind at er
  cases hf : it ρ w.μ with
  | none => rw [hf] at er; cases er
  | some r1 =>
    rw [hf] at er
    cases r1 with
    | ex y μ1 =>
      cases er
      exact hi w σ ρ ev s _ hf _ (fun _ _ z => by cases z) fun x w' cls d z => by cases z; exact q2 _ w' cls d rfl
    | ok xs μ1 =>
      refine hi w σ ρ ev s _ hf _ (fun xs' w' z e1 s1 J G Y wk yl => ?_) fun _ _ _ _ z => by cases z
      cases z
      intro D hD
      have er : compL2 gf tf vs1 it1 gf1 tf1 el (wipeR ρ vs) xs [] w'.μ = some r := er
      refine lc_it1 wk (Body := fun x H' Nx => g x (wipe σ vs) H' fun σ2 H2 => wipe σ2 vs = wipe σ vs ∧ tt σ2 H2 fun b H3 =>
    if b = true then wi1 σ2 H3 fun J1 H4 => ∃ W1 : Nat → Nat → Hp → Prop, (∃ m, W1 0 m H4) ∧ ∀ j k H, W1 j k H →
      (J1.stop j H ∧ Nx H) ∨ (J1.go j H ∧ ∃ Nx1 : Hp → Prop, (∀ H', Nx1 H' → ∃ k', k' < k ∧ W1 (j + 1) k' H') ∧ ∀ x H', J1.yld j H x H' → g1 x (wipe σ2 vs1) H' fun σ3 H5 => wipe σ3 vs1 = wipe σ2 vs1 ∧ tt1 σ3 H5 fun b H6 =>
        if b = true then te σ3 H6 fun y H7 => ∃ acc, H7 D = some (.lst acc) ∧ acc.length < sizeLine ∧ Nx1 (upd H7 D (.lst (acc ++ [y]))) else Nx1 H6)
    else Nx H3) (fun i H => ∃ (w1 : Wd) (ac : List T), w1.H = H ∧ Col K w' D ac w1 ∧ compL2 gf tf vs1 it1 gf1 tf1 el (wipeR ρ vs) (xs.drop i) ac w1.μ = some r) ?_ ?_ ?_ ?_
      · exact ⟨_, [], rfl, Col.zero s1 hD, er⟩
      · rintro i H _ ⟨w1, ac, rfl, c1, _⟩
        exact (yl w1 c1.e c1.s).1
      · rintro i x H H' hlt ⟨w1, ac, rfl, c1, h6⟩ y
        obtain ⟨w2, t, rfl, hμ, e2, s2, hx, hr⟩ := (yl w1 c1.e c1.s).2 i x H' hlt y
        have hdrop : xs.drop i = t :: xs.drop (i + 1) := by
          obtain ⟨hl, e⟩ := List.getElem?_eq_some_iff.mp hx
          rw [List.drop_eq_getElem_cons hl, e]
        rw [hdrop, ← hμ] at h6
        have c2 := c1.ext e2 s2
        have h6 : mbind (noex (gf t (wipeR ρ vs))) (fun ρ1 => mbind (noex (tf ρ1)) fun b => if b = true then mbind (noex (it1 ρ1)) fun ys => mbind (compI gf1 tf1 el (wipeR ρ1 vs1) ys ac) fun acc' => compL2 gf tf vs1 it1 gf1 tf1 el (wipeR ρ vs) (xs.drop (i + 1)) acc' else compL2 gf tf vs1 it1 gf1 tf1 el (wipeR ρ vs) (xs.drop (i + 1)) ac) w2.μ = some r := h6
        unfold mbind at h6
        cases hgf : noex (gf t (wipeR ρ vs)) w2.μ with
        | none => rw [hgf] at h6; cases h6
        | some rg =>
          obtain ⟨ρ1, m2, rfl, hgf2⟩ := noex_some hgf
          obtain ⟨ρ3, hρ⟩ := hgn _ _ _ _ hgf2
          cases hρ
          rw [hgf] at h6
          refine hg w2 (wipe σ vs) (wipeR ρ vs) t x ρ1 (env_wipe (ev.ext (e1.trans c2.e)) vs) s2 hr hgf2 _ fun σ2 hσ2 hk => ⟨wipe_keeps hk hs, ?_⟩
          refine At.use (E := E) (at_noex (ht w2 σ2 ρ1 hσ2)) s2 h6 _ (fun b w3 b' _ h9 e3 s3 hb => ?_) fun a w' cls d z e' => q2 a w' cls d z ((e1.trans c2.e).trans e')
          cases hb
          have c3 := c2.ext e3 s3
          cases b with
          | false => exact ⟨w3, ac, rfl, c3, h9⟩
          | true =>
            have h9 : mbind (noex (it1 ρ1)) (fun ys => mbind (compI gf1 tf1 el (wipeR ρ1 vs1) ys ac) fun acc' => compL2 gf tf vs1 it1 gf1 tf1 el (wipeR ρ vs) (xs.drop (i + 1)) acc') w3.μ = some r := h9
            unfold mbind at h9
            cases hit : noex (it1 ρ1) w3.μ with
            | none => rw [hit] at h9; cases h9
            | some ri =>
              obtain ⟨ys, m4, rfl, hit2⟩ := noex_some hit
              rw [hit] at h9
              refine hi1 w3 σ2 ρ1 (hσ2.ext e3) s3 _ hit2 _ (fun ys' w4 us z e4 s4 hp J1 G1 Y1 wk1 hG1 hY1 => ?_) fun _ _ _ _ z => by cases z
              cases z
              have c4 := c3.ext e4 s4
              dsimp only at h9
              cases hci : compI gf1 tf1 el (wipeR ρ1 vs1) ys ac w4.μ with
              | none => rw [hci] at h9; cases h9
              | some rc =>
                obtain ⟨acc', m5, rfl⟩ := compI_ok hci
                rw [hci] at h9
                refine comp_inner hg1 hgn1 ht1 he hs1 hD ((hσ2.ext e3).ext e4) c4 wk1 hp hG1 hY1 hci fun w5 c5 hm => ?_
                subst hm
                exact ⟨w5, acc', rfl, c5, h9⟩
      · rintro H ⟨w1, ac, rfl, c1, h6⟩
        rw [List.drop_length] at h6
        have h6 : some (Rs.ok (Cell.lst ac) w1.μ) = some r := h6
        cases h6
        obtain ⟨us, h3, h4⟩ := c1.h
        exact q1 (.lst ac) w1 (.ref D) rfl (e1.trans c1.e) c1.s ⟨D, rfl, e1.dom D hD, c1.a, rfl, c1.f, us, h3, h4⟩
end
section
variable {X : Cx} {E : XK} {K : PySem.W.Frag}
variable {elt tg iter tg1 iter1 : Expr} {ifs ifs1 : List Expr} {scope : Scope} {pos : Pos} {wi wi1 : TI} {g g1 : TG} {tt tt1 : TT} {te : TE} {it it1 : AF} {gf gf1 : GF} {tf tf1 : TF} {el : EF} {is is1 : List Nat} {k : Nat}
structure PLc2 (K : PySem.W.Frag) (X : Cx) (E : XK) (own : List (Str × Nat)) (vs1 : List Nat) (elt tg iter tg1 iter1 : Expr) (ifs ifs1 : List Expr) (scope : Scope) (wi : TI) (g : TG) (tt : TT) (wi1 : TI) (g1 : TG) (tt1 : TT) (te : TE) (f : CF) : Prop where
  calm : X.calm = true
  nd : X.N.Nodup
  hi : PI X tg iter wi
  blk : BlkOk X.N X.env.scope scope own
  hv : ∀ i ∈ vs1, i ∈ own.map (·.2)
  hg : ∀ (s : Shared) (H : Hp) (C : Addr) (cl : List (Str × Addr)) (fp : List Addr), PG (X.blk s H scope (compEnvC scope cl C X.env) fp) tg g
  ht : ∀ (s : Shared) (H : Hp) (C : Addr) (cl : List (Str × Addr)) (fp : List Addr), PTs (X.blk s H scope (compEnvC scope cl C X.env) fp) ifs tt
  hi1 : ∀ (s : Shared) (H : Hp) (C : Addr) (cl : List (Str × Addr)) (fp : List Addr), PI (X.blk s H scope (compEnvC scope cl C X.env) fp) tg1 iter1 wi1
  hg1 : ∀ (s : Shared) (H : Hp) (C : Addr) (cl : List (Str × Addr)) (fp : List Addr), PG (X.blk s H scope (compEnvC scope cl C X.env) fp) tg1 g1
  ht1 : ∀ (s : Shared) (H : Hp) (C : Addr) (cl : List (Str × Addr)) (fp : List Addr), PTs (X.blk s H scope (compEnvC scope cl C X.env) fp) ifs1 tt1
  he : ∀ (s : Shared) (H : Hp) (C : Addr) (cl : List (Str × Addr)) (fp : List Addr), PE (X.blk s H scope (compEnvC scope cl C X.env) fp) elt te
  ok : COk K E (tLc2 wi g tt wi1 g1 tt1 te (own.map (·.2)) vs1) f
theorem plc2 {own : List (Str × Nat)} (vs1 : List Nat) {N : List Str} {sc : Scope} (B : Bd X E k) (nd : X.N.Nodup) (hi : PIt K X E tg iter wi it) (blk : blkC N sc scope own = true)
    (hg : ∀ (s : Shared) (H : Hp) (C : Addr) (cl : List (Str × Addr)) (fp : List Addr), PGt K (X.blk s H scope (compEnvC scope cl C X.env) fp) is tg g gf)
    (ht : ∀ (s : Shared) (H : Hp) (C : Addr) (cl : List (Str × Addr)) (fp : List Addr), Bd (X.blk s H scope (compEnvC scope cl C X.env) fp) E0 k → PTF K (X.blk s H scope (compEnvC scope cl C X.env) fp) E0 ifs tt tf)
    (hi1 : ∀ (s : Shared) (H : Hp) (C : Addr) (cl : List (Str × Addr)) (fp : List Addr), Bd (X.blk s H scope (compEnvC scope cl C X.env) fp) E0 k → PItF K (X.blk s H scope (compEnvC scope cl C X.env) fp) E0 tg1 iter1 wi1 it1)
    (hg1 : ∀ (s : Shared) (H : Hp) (C : Addr) (cl : List (Str × Addr)) (fp : List Addr), PGt K (X.blk s H scope (compEnvC scope cl C X.env) fp) is1 tg1 g1 gf1)
    (ht1 : ∀ (s : Shared) (H : Hp) (C : Addr) (cl : List (Str × Addr)) (fp : List Addr), Bd (X.blk s H scope (compEnvC scope cl C X.env) fp) E0 k → PTF K (X.blk s H scope (compEnvC scope cl C X.env) fp) E0 ifs1 tt1 tf1)
    (he : ∀ (s : Shared) (H : Hp) (C : Addr) (cl : List (Str × Addr)) (fp : List Addr), Bd (X.blk s H scope (compEnvC scope cl C X.env) fp) E0 k → PD K (X.blk s H scope (compEnvC scope cl C X.env) fp) E0 elt te el)
    (hs : ∀ i ∈ is, i ∈ own.map (·.2) := by decide) (hs1 : ∀ i ∈ is1, i ∈ vs1 := by decide) (hv : ∀ i ∈ vs1, i ∈ own.map (·.2) := by decide) (eN : X.N = N := by rfl) (es : X.env.scope = sc := by rfl) : PLc2 K X E own vs1 elt tg iter tg1 iter1 ifs ifs1 scope wi g tt wi1 g1 tt1 te (cComp2 (own.map (·.2)) vs1 it gf tf it1 gf1 tf1 el) :=
  ⟨B.calm, nd, hi.pe, blkOk_by (by rw [eN, es]; exact blk), hv, fun s H C cl fp => (hg s H C cl fp).pe, fun s H C cl fp => (ht s H C cl fp (B.blk s H scope _ fp)).pe, fun s H C cl fp => (hi1 s H C cl fp (B.blk s H scope _ fp)).pe, fun s H C cl fp => (hg1 s H C cl fp).pe, fun s H C cl fp => (ht1 s H C cl fp (B.blk s H scope _ fp)).pe, fun s H C cl fp => (he s H C cl fp (B.blk s H scope _ fp)).pe,
    cok_comp2 hi.ok (hg X.s_0 (fun _ => none) 0 [] []).ok (hg X.s_0 (fun _ => none) 0 [] []).no (ht X.s_0 (fun _ => none) 0 [] [] (B.blk _ _ _ _ _)).ok hs (hi1 X.s_0 (fun _ => none) 0 [] [] (B.blk _ _ _ _ _)).ok (hg1 X.s_0 (fun _ => none) 0 [] []).ok (hg1 X.s_0 (fun _ => none) 0 [] []).no (ht1 X.s_0 (fun _ => none) 0 [] [] (B.blk _ _ _ _ _)).ok (he X.s_0 (fun _ => none) 0 [] [] (B.blk _ _ _ _ _)).ok hs1⟩
theorem pc_lc2 {own : List (Str × Nat)} {vs1 : List Nat} {f : CF} (h : PLc2 K X E own vs1 elt tg iter tg1 iter1 ifs ifs1 scope wi g tt wi1 g1 tt1 te f) (hs : ∀ x, foldedSetIterable iter X.env x = pure x := by intro _; rfl) (hs1 : ∀ env x, foldedSetIterable iter1 env x = pure x := by intro _ _; rfl) :
    PCr K X E (.ListComp elt [⟨tg, iter, ifs, 0⟩, ⟨tg1, iter1, ifs1, 0⟩] scope pos) (tLc2 wi g tt wi1 g1 tt1 te (own.map (·.2)) vs1) f :=
  ⟨pe_lc2 h.calm h.nd h.hi h.blk h.hv h.hg h.ht h.hi1 h.hg1 h.ht1 h.he hs hs1, h.ok⟩
theorem st_lc2 (i : Nat) {y : Str} {py : Pos} {own : List (Str × Nat)} {vs1 : List Nat} {spos : Pos} {f : CF} {fe : EF} (h : PLc2 K X E own vs1 elt tg iter tg1 iter1 ifs ifs1 scope wi g tt wi1 g1 tt1 te f) (hf : EOk K E (tLc2 wi g tt wi1 g1 tt1 te (own.map (·.2)) vs1) fe)
    (hsw : swapsWith (.ListComp elt [⟨tg, iter, ifs, 0⟩, ⟨tg1, iter1, ifs1, 0⟩] scope pos) (some (.Name y py)) spos.line X.env = pure true) (hy : X.N[i]? = some y := by rfl) (hyl : X.env.scope.names.lookup y = some .local := by rfl) (hs : ∀ x, foldedSetIterable iter X.env x = pure x := by intro _; rfl) (hs1 : ∀ env x, foldedSetIterable iter1 env x = pure x := by intro _ _; rfl) :
    PSt K X E (.Assign [.Name y py] (.ListComp elt [⟨tg, iter, ifs, 0⟩, ⟨tg1, iter1, ifs1, 0⟩] scope pos) spos) (tAsg (tLc2 wi g tt wi1 g1 tt1 te (own.map (·.2)) vs1) (gName i)) (sAsg fe (gN i)) :=
  ⟨ps_setLc2 h.calm h.nd hy hyl hsw h.hi h.blk h.hv h.hg h.ht h.hi1 h.hg1 h.ht1 h.he hs hs1, sok_asg hf (gok_n i) (gno_n i)⟩
end
end Fm
set_option Elab.async false
set_option linter.all false
set_option maxRecDepth 100000
/-! De3: < of tuples up to the first place that differs. -/
namespace Fm
open PySem L2 PySem.Spec PyProof.Rows PySem.SeqAt PySem.W
open AutoSeq1 (wpAny_loadPart')
open MeetsSeq MeetsSeq2 MeetsSeq3 SeqRoads2
def LtIn (prog : Program) (w : World) (A : Around) (s : Shared) (v u : Value) (k : Bool) : Prop := ∀ (E Q : Value → Shared → Prop), Q (.bool k) s → wpAny (model prog w) A (richCompare .Lt v u) Q E s
/-- place by place, up to the first that differs -/
inductive LtL (prog : Program) (w : World) (A : Around) (s : Shared) : List Value → List Value → Bool → Prop
  | nl {ys : List Value} : LtL prog w A s [] ys (decide (0 < ys.length))
  | nr {x : Value} {xs : List Value} : LtL prog w A s (x :: xs) [] false
  | eq {x y : Value} {xs ys : List Value} {b : Bool} (h : EqIn prog w A s x y true) (t : LtL prog w A s xs ys b) : LtL prog w A s (x :: xs) (y :: ys) b
  | ne {x y : Value} {xs ys : List Value} {b : Bool} (h : EqIn prog w A s x y false) (t : LtIn prog w A s x y b) : LtL prog w A s (x :: xs) (y :: ys) b
section
variable {prog : Program} {w : World} {l m : Addr} {xs ys : Array Value} {n1 n2 : Nat} {d1 d2 : Option Addr} {s1 s2 : Array (Option Value)} {k : Bool}
theorem ltTuple : MeetsIn prog w (Builtin.«tuple.__lt__» ⟨[.ref l, .ref m], []⟩)
      (fun A R s => s.heap.get? l = some (sqO "tuple" xs n1 d1 s1) ∧ s.heap.get? m = some (sqO "tuple" ys n2 d2 s2) ∧ LtL prog w A.in1 s xs.toList ys.toList k ∧ R (.ok (.ret (.bool k))) s) := by
  rintro A R ⟨hp, g, d, tk, os⟩ ⟨hl, hb, he, h⟩
  have f2 := AutoSeq1.sub_tuple_tuple
  let Z := xs.toList.zip ys.toList
  have hZ : Z.length = min xs.size ys.size := by simp [Z]
  wp_walk using wpAny_loadPart' hl, wpAny_loadPart' hb, wpAny_forIn_list _ (fun rest b s' => b.1 = none ∧ s' = ⟨hp, g, d, tk, os⟩ ∧ ∃ i, i ≤ Z.length ∧ rest = Z.drop i ∧ LtL prog w A.in1 ⟨hp, g, d, tk, os⟩ (xs.toList.drop i) (ys.toList.drop i) k) _
  case turn =>
    rintro ⟨y, x⟩ rest b s' ⟨hb', rfl, i, hi, hz, hR⟩
    have hlt : i < Z.length := by
      rcases Nat.lt_or_ge i Z.length with h' | h'
      · exact h'
      · rw [List.drop_of_length_le h'] at hz
        cases hz
    have hm : i < min xs.size ys.size := hZ ▸ hlt
    have g1 : i < xs.toList.length := Nat.lt_of_lt_of_le hm (Nat.min_le_left _ _)
    have g2 : i < ys.toList.length := Nat.lt_of_lt_of_le hm (Nat.min_le_right _ _)
    rw [List.drop_eq_getElem_cons hlt] at hz
    rw [List.drop_eq_getElem_cons g1, List.drop_eq_getElem_cons g2] at hR
    injection hz with hyx hrest
    have hy : y = xs.toList[i] := by simpa [Z] using congrArg Prod.fst hyx
    have hx : x = ys.toList[i] := by simpa [Z] using congrArg Prod.snd hyx
    rw [← hy, ← hx] at hR
    cases hR with
    | eq q t =>
      refine wpAny_bind (q _ _ ?_)
      wp_walk
      exact ⟨rfl, rfl, i + 1, hlt, hrest, t⟩
    | ne q t =>
      refine wpAny_bind (q _ _ ?_)
      have t2 : ∀ (E Q : Value → Shared → Prop), Q (.bool k) ⟨hp, g, d, tk, os⟩ → wpAny (model prog w) A.in1 (richCompare .Lt y x) Q E ⟨hp, g, d, tk, os⟩ := t
      wp_walk using t2
      simpa using h
  case fin =>
    rintro ⟨b1, b2⟩ s' ⟨hb', rfl, i, hi, hz, hR⟩
    simp only at hb'
    subst hb'
    have hge : min xs.size ys.size ≤ i := by
      rcases Nat.lt_or_ge i Z.length with h' | h'
      · rw [List.drop_eq_getElem_cons h'] at hz
        cases hz
      · exact hZ ▸ h'
    wp_walk
    have hi2 : i = min xs.size ys.size := by omega
    have hk : k = decide (xs.size < ys.size) := by
      subst hi2
      rcases Nat.lt_or_ge xs.size ys.size with q | q
      · rw [show xs.toList.drop (min xs.size ys.size) = [] from List.drop_of_length_le (by simp; omega)] at hR
        cases hR with
        | nl =>
          rw [List.length_drop, Array.length_toList]
          simp
          omega
      · rw [show ys.toList.drop (min xs.size ys.size) = [] from List.drop_of_length_le (by simp; omega)] at hR
        generalize xs.toList.drop (min xs.size ys.size) = z at hR
        cases hR with
        | nl => simp; omega
        | nr => simp; omega
    subst hk
    simpa [Builtin.Tuple.tupleCompareSizes] using h
  case h =>
    exact ⟨rfl, rfl, 0, Nat.zero_le _, rfl, he⟩
theorem rcLt_tuples {A : Around} {s : Shared} (hl : s.heap.IsTuple l xs) (hm : s.heap.IsTuple m ys) (hu : A.units < cLine) (h : LtL prog w A.in1 s xs.toList ys.toList k) : LtIn prog w A s (.ref l) (.ref m) k := fun E Q q => by
  obtain ⟨⟨cls, dd, data, sl⟩, ho, hc, n, hd⟩ := id hl
  obtain ⟨⟨cls2, dd2, data2, sl2⟩, ho2, hc2, n2, hd2⟩ := id hm
  simp only at hc hd hc2 hd2
  subst hc hd hc2 hd2
  exact wpAny_richCompare_same_room (T := "tuple") (op := .Lt) ⟨_, ho, rfl⟩ ⟨_, ho2, rfl⟩ PySem.F.slot_tuple_lt (call_meetsIn PySem.F.slot_tuple_lt ⟨_, ho, rfl⟩ PySem.F.entry_tuple_lt (PySem.F.args_tuple_lt_2 _ _) ltTuple
    ⟨ho, ho2, h, show Value.bool _ ≠ Value.notImplemented ∧ Q (.bool _) s from ⟨(fun x => nomatch x), q⟩⟩) hu
end
/-! ### of data -/
def flt : D → D → Option Bool
  | .int i, .int j => some (decide (i < j))
  | .str i, .str j => some (ltS i j)
  | .bl a, .bl b => some (!a && b)
  | _, _ => none
def ltLs (f g : D → D → Option Bool) : List D → List D → Option Bool
  | [], ys => some (decide (0 < ys.length))
  | _ :: _, [] => some false
  | x :: xs, y :: ys => match f x y with
    | some true => ltLs f g xs ys
    | some false => g x y
    | none => none
def dlt : Nat → D → D → Option Bool
  | 0, x, y => flt x y
  | n + 1, x, y => match x, y with
    | .tup xs, .tup ys => ltLs (deq n) (dlt n) xs ys
    | x, y => flt x y
section
variable {X : Cx} {pins : List (Addr × Obj)} {σ : L2.St} {H : Hp} {s : Shared}
theorem flt_at {A : Around} {d e : D} {x y : V} {v u : Value} {b : Bool} (h : flt d e = some b) (rd : Rep X.K H d x) (re : Rep X.K H e y) (rx : RelV x v) (ry : RelV y u) : LtIn X.prog X.w A s v u b := fun E Q q => by
  unfold flt at h
  split at h
  all_goals first
    | cases h
    | skip
  all_goals cases (show x = _ from rd)
  all_goals cases (show y = _ from re)
  · obtain ⟨t, rfl⟩ := rx; obtain ⟨t', rfl⟩ := ry; exact PyProof.Rows.lt_int q
  · obtain ⟨t, rfl⟩ := rx; obtain ⟨t', rfl⟩ := ry; exact PyProof.Rows.lt_str q
  · rename_i a b
    cases rx; cases ry
    refine PyProof.Rows.lt_bool ?_
    rw [show decide (PyProof.Rows.b2i a < PyProof.Rows.b2i b) = (!a && b) by cases a <;> cases b <;> rfl]
    exact q
theorem lts_run {f g : D → D → Option Bool} {A : Around} (hf : ∀ d e x y v u b, f d e = some b → Rep X.K H d x → Rep X.K H e y → RelV x v → RelV y u → EqIn X.prog X.w A s v u b) (hg : ∀ d e x y v u b, g d e = some b → Rep X.K H d x → Rep X.K H e y → RelV x v → RelV y u → LtIn X.prog X.w A s v u b) :
    ∀ {xs ys : List D} {vs ws : List V} {us zs : List Value} {b : Bool}, ltLs f g xs ys = some b → Reps X.K H xs vs → Reps X.K H ys ws → Vals vs us → Vals ws zs → LtL X.prog X.w A s us zs b
  | [], ys, vs, ws, us, zs, b, h, hx, hy, r1, r2 => by
    cases h
    cases hx
    cases r1
    rw [show ys.length = zs.length from hy.len.trans r2.length]
    exact .nl
  | x :: xs, [], vs, ws, us, zs, b, h, hx, hy, r1, r2 => by
    cases h
    cases hy
    cases r2
    obtain ⟨v, r, rfl, h1, h2⟩ := hx
    cases r1 with
    | cons q1 t1 => exact .nr
  | x :: xs, y :: ys, vs, ws, us, zs, b, h, hx, hy, r1, r2 => by
    obtain ⟨v, r, rfl, h1, h2⟩ := hx
    obtain ⟨v', r', rfl, h3, h4⟩ := hy
    cases r1 with
    | cons q1 t1 =>
      cases r2 with
      | cons q2 t2 =>
        unfold ltLs at h
        split at h
        · rename_i hp
          exact .eq (hf _ _ _ _ _ _ _ hp h1 h3 q1 q2) (lts_run hf hg h h2 h4 t1 t2)
        · rename_i hp
          exact .ne (hf _ _ _ _ _ _ _ hp h1 h3 q1 q2) (hg _ _ _ _ _ _ _ h h1 h3 q1 q2)
        · cases h
theorem dlt_run (I : Inv X pins σ H s) : ∀ (n : Nat) (A : Around), A.units + n < cLine → ∀ (d e : D) (x y : V) (v u : Value) (b : Bool), dlt n d e = some b → Rep X.K H d x → Rep X.K H e y → RelV x v → RelV y u → LtIn X.prog X.w A s v u b
  | 0, A, hu, d, e, x, y, v, u, b, h, rd, re, rx, ry => flt_at h rd re rx ry
  | n + 1, A, hu, d, e, x, y, v, u, b, h, rd, re, rx, ry => by
    unfold dlt at h
    split at h
    · rename_i xs ys
      obtain ⟨a, vs, rfl, h1, h2⟩ := rd
      obtain ⟨a', ws, rfl, h3, h4⟩ := re
      cases rx
      cases ry
      obtain ⟨us, r1, p1⟩ := tuple_at I h1
      obtain ⟨zs, r2, p2⟩ := tuple_at I h3
      have hu1 : A.in1.units + n < cLine := by show A.units + 1 + n < cLine; omega
      refine rcLt_tuples p1 p2 (by omega) ?_
      exact lts_run (deq_run I n A.in1 hu1) (dlt_run I n A.in1 hu1) h h2 h4 r1 r2
    · exact flt_at h rd re rx ry
end
def rLtA (K : PySem.W.Frag) : R2 := fun x y H Q => ∃ d e b, Rep K H d x ∧ Rep K H e y ∧ dlt 60 d e = some b ∧ Q (.bl b) H
theorem op_ltA {X : Cx} (hu : X.A.units + 64 < cLine) : OpR X (compareOp .Lt) (rLtA X.K) := by
  intro pins s σ H x y v u Q I rx ry h
  obtain ⟨d, e, b, rd, re, hb, q⟩ := h
  exact dlt_run I 60 X.A (by omega) d e x y v u b hb rd re rx ry _ _ ⟨.bl b, H, I, rfl, q⟩
def gLtT : G2 := fun _ x y => match x, y with
  | .d d, .d e => (dlt 60 d e).map fun b => .d (.bl b)
  | _, _ => none
theorem opv_ltA {K : PySem.W.Frag} : OpV K (rLtA K) gLtT := fun w x y vx vy z s hx hy e => by
  unfold gLtT at e
  split at e
  · rename_i d f
    obtain ⟨b, hb, e⟩ := Option.map_eq_some_iff.mp e
    subst e
    exact ⟨_, rfl, fun Q q => ⟨d, f, b, Rep.mono s.sub (show Rep K w.F d vx from hx), Rep.mono s.sub (show Rep K w.F f vy from hy), hb, q⟩⟩
  · cases e
theorem od_ltA {K : PySem.W.Frag} {X : Cx} (hu : X.A.units + 64 < cLine) (hK : X.K = K := by rfl) : OpD K X (compareOp .Lt) (rLtA K) gLtT := by
  subst hK
  exact ⟨op_ltA hu, opv_ltA⟩
/-! ### x in a list or tuple of flat things -/
def seqOf (μ : Mu) (y : T) : Option (List T) := match lstOf μ y with
  | some xs => some xs
  | none => (tupOf y).map fun ds => ds.map T.d
def flats : List T → Option (List V)
  | [] => some []
  | x :: r => match flat x, flats r with
    | some u, some us => some (u :: us)
    | _, _ => none
theorem flat_fl {x : T} {u : V} (h : flat x = some u) : flatV u = true := by
  unfold flat at h
  split at h <;> first | (cases h; rfl) | cases h
theorem flats_ok {K : PySem.W.Frag} {w : Wd} : ∀ {xs : List T} {vs us : List V}, Paired (w.t K) xs vs → flats xs = some us → vs = us ∧ us.all flatV = true
  | [], _, us, .nil, e => by cases e; exact ⟨rfl, rfl⟩
  | x :: xs, v :: vs, us, .cons h t, e => by
    unfold flats at e
    split at e
    · rename_i u us' h1 h2
      cases e
      obtain ⟨q1, q2⟩ := flats_ok t h2
      rw [flat_ok h h1, q1]
      refine ⟨rfl, ?_⟩
      rw [List.all_cons, flat_fl h1, q2]
      rfl
    · cases e
def gInQ (n : Bool) : G2 := fun μ x y => match flat x, (seqOf μ y).bind flats with
  | some u, some us => some (.d (.bl (if n then !inV u us else inV u us)))
  | _, _ => none
theorem seq_ok {K : PySem.W.Frag} {w : Wd} (s : StOk K w) {x : T} {v : V} {xs : List T} (h : w.t K x v) (e : seqOf w.μ x = some xs) : ∃ a vs, v = .ref a ∧ (SqL K w.H a vs ∨ SqT K w.H a vs) ∧ Paired (w.t K) xs vs := by
  unfold seqOf at e
  split at e
  · rename_i ys hl
    cases e
    obtain ⟨a, vs, h1, h2, h3⟩ := lst_ok s h hl
    exact ⟨a, vs, h1, .inl h2, h3⟩
  · obtain ⟨ds, hd, e⟩ := Option.map_eq_some_iff.mp e
    subst e
    obtain ⟨a, vs, h1, h2, h3⟩ := tup_ok s h hd
    exact ⟨a, vs, h1, .inr (.of h2), h3⟩
theorem opv_inQ {K : PySem.W.Frag} (n : Bool) : OpV K (rIn K n) (gInQ n) := fun w x y vx vy z s hx hy e => by
  unfold gInQ at e
  split at e
  · rename_i u us h1 h2
    cases e
    obtain ⟨ys, h3, h4⟩ := Option.bind_eq_some_iff.mp h2
    obtain ⟨a, vs, q1, q2, q3⟩ := seq_ok s hy h3
    obtain ⟨q4, q5⟩ := flats_ok q3 h4
    subst q4
    refine ⟨_, rfl, fun Q q => ⟨a, vs, q1, q2, ?_, q5, ?_⟩⟩
    · rw [flat_ok hx h1]; exact flat_fl h1
    · rw [flat_ok hx h1]; exact q
  · cases e
theorem od_inQ {K : PySem.W.Frag} {X : Cx} (hK : X.K = K := by rfl) : OpD K X (compareOp .In) (rIn K false) (gInQ false) := by
  subst hK
  exact ⟨op_in_seq, opv_inQ false⟩
theorem od_notInQ {K : PySem.W.Frag} {X : Cx} (hK : X.K = K := by rfl) : OpD K X (compareOp .NotIn) (rIn K true) (gInQ true) := by
  subst hK
  exact ⟨op_notIn_seq, opv_inQ true⟩
end Fm
set_option Elab.async false
set_option linter.all false
set_option maxRecDepth 100000
namespace Fm
open PySem L2 PySem.Spec PyProof.Rows
/-! ### what has become data, as data -/
def eRd (f : EF) : EF := fun ρ => mbind (f ρ) fun x μ => some (.ok (rd μ x) μ)
theorem pd_rd {X : Cx} {E : XK} {K : PySem.W.Frag} {e : Expr} {t : TE} {f : EF} (h : PD K X E e t f) : PD K X E e t (eRd f) := by
  refine ⟨h.pe, fun w σ ρ ev => ?_⟩
  have q := At.bind (u := fun v H Q => Q v H) (g := fun x μ => some (.ok (rd μ x) μ)) (R2 := RV K) rv_m (h.ok w σ ρ ev) fun x v w1 e1 s1 hx => by
    intro s r er Q k _
    cases er
    exact k _ w1 v rfl (Ext.refl _) s (rd_ok s hx)
  exact q
/-! ### dict(zip(xs, ys)) -/
def rDZ (K : PySem.W.Frag) : RCall := fun vs H Q => ∃ (a b : Addr) (ks : List Key) (ys : List V), vs = [.ref a, .ref b] ∧ SqL K H a (ks.map kV) ∧ SqL K H b ys ∧ ∀ p, H p = none → Q (.ref p) (upd H p (.dK (mergeK [] (ks.zip ys))))
theorem kz_rel {w : World} : ∀ {ks : List Key} {its its2 : List Value} {ys : List V}, Vals (ks.map kV) its → Vals ys its2 → KV (ks.zip ys) (ks.zip its2)
  | [], _, _, _, _, _ => .nil
  | _ :: _, _, _, [], _, r2 => by cases r2; exact .nil
  | k :: ks, _, _, y :: ys, r1, r2 => by
    cases r2 with
    | cons q2 t2 =>
      rw [List.map_cons] at r1
      cases r1 with
      | cons q1 t1 => exact .cons ⟨rfl, q2⟩ (kz_rel (w := w) t1 t2)
section
variable {X : Cx} {E : XK} {K : PySem.W.Frag} {e e2 : Expr} {ta : TA} {f : AF} {p p2 pos pos2 : Pos}
theorem pe_dictZip (hc : X.calm = true) (hmd : X.mg "dict" = none) (hmz : X.mg "zip" = none) (ha : PA X [e, e2] ta) (hgd : Gl X "dict") (hgz : Gl X "zip")
    (hsd : starEach [.Call (.Name "zip" p2) [e, e2] [] pos2] X.env = (false, eval (.Call (.Name "zip" p2) [e, e2] [] pos2) X.env) :: starEach [] X.env)
    (hs : starEach [e, e2] X.env = (false, eval e X.env) :: starEach [e2] X.env) (hpl : (backTo pos2 (starEach [e2] X.env)).any (·.1) = false) :
    PE X (.Call (.Name "dict" p) [.Call (.Name "zip" p2) [e, e2] [] pos2] [] pos) (tCB (rDZ X.K) ta) := by
  refine ⟨fun pins s σ H Q I h => ?_⟩
  refine wpAny_Call_Name_kw (ld_blt I hgd hmd PyProof.Rows.boot_dict ?_)
  refine PyProof.Rows.callWith_type1 ?_ hsd rfl
  rw [hsd]
  show wpAny _ _ (spliced ((false, eval (.Call (.Name "zip" p2) [e, e2] [] pos2) X.env) :: backTo pos (starEach [] X.env))) _ _ s
  refine Calls.spliced_cons ?_
  refine wpAny_Call_Name_kw (ld_blt I hgz hmz PyProof.Rows.boot_zip (PyProof.Rows.callWith_type1 (thn (ha.run pos2 pins s σ H _ I h) fun us s1 ⟨vs, H1, I1, r1, q1⟩ => ?_) hs hpl))
  obtain ⟨a, b, ks, ys, ex, hqx, hqy, q⟩ := q1
  subst ex
  cases r1 with
  | cons r rr =>
    cases rr with
    | cons r' rr =>
      cases rr
      cases r
      cases r'
      obtain ⟨its, rv, p1, z1⟩ := I1.list hqx
      obtain ⟨its2, rv2, p2, z2⟩ := I1.list hqy
      have la : a < s1.heap.objs.size := p1.lt
      have lb : b < s1.heap.objs.size := p2.lt
      refine call_zip_2 p1.isList p2.isList fun h' hz hTI hTO h1 h2 hsz hk => ?_
      refine Calls.spliced_nil ?_
      have l1 := rv.length
      have l2 := rv2.length
      rw [List.length_map] at l1
      have hlen : (ks.zip its2).length = min its.toArray.size its2.toArray.size := by simp [l1]
      refine PySem.call_dict_pairs (knd := mixKind X.prog X.w) (kvs := ks.zip its2) (PairArg.zip (s1.heap.objs.size + 4) (s1.heap.objs.size + 2) (s1.heap.objs.size + 3) s1.heap.objs.size (s1.heap.objs.size + 1) a b (PySem.W.ktu_apart s1.heap.objs.size a b la lb) its.toArray its2.toArray) (I.ok.hd hc)
        ⟨hz, hTI, ⟨_, _, hTO⟩, h1, h2, p1.isList.at fun o e => hk _ o e, p2.isList.at fun o e => hk _ o e⟩ ⟨hlen, ?_⟩ (by simp; omega) fun h'' tk hd keep => ?_
      · rintro i key v ⟨e1, e2⟩
        have e1 : its[i]? = some key := by simpa using e1
        have e2 : its2[i]? = some v := by simpa using e2
        obtain ⟨k0, g1, g2⟩ := pd_get' rv e1
        rw [List.getElem?_map] at g1
        obtain ⟨k, g3, g4⟩ := Option.map_eq_some_iff.mp g1
        subst g4
        exact ⟨k, List.getElem?_zip_eq_some.mpr ⟨g3, e2⟩, kV_is g2⟩
      · have hp : s1.heap.objs.size ≤ h'.objs.size := by omega
        have kp : ∀ b o, s1.heap.get? b = some o → h''.get? b = some o := fun c o e => by
          have lt := Heap.lt_size e
          refine keep c o ?_ (hk c o e)
          simp only [List.mem_cons, List.not_mem_nil, or_false, not_or]
          exact ⟨Nat.ne_of_lt (Nat.lt_of_lt_of_le lt (Nat.le_add_right _ _)), Nat.ne_of_lt (Nat.lt_of_lt_of_le lt (Nat.le_add_right _ _)), Nat.ne_of_lt lt, Nat.ne_of_lt (Nat.lt_of_lt_of_le lt (Nat.le_add_right _ _))⟩
        have hm : (h'.objs.size == sysModules) = false := beq_eq_false_iff_ne.mpr (Nat.ne_of_gt (Nat.lt_of_lt_of_le I1.big hp))
        have hz : (mergeK [] (ks.zip ys)).length ≤ sizeLine := by
          refine Nat.le_trans (length_mergeK _ []) ?_
          rw [List.length_nil, Nat.zero_add, List.length_zip]
          omega
        exact ⟨.ref h'.objs.size, upd H1 h'.objs.size (.dK (mergeK [] (ks.zip ys))), I1.laid (t' := tk) kp hp (dk_new hz hm ((kz_rel (w := X.w) rv rv2).merge .nil) hd), rfl, q _ (I1.hok.fresh hp)⟩
end
def keysT : List T → Option (List Key)
  | [] => some []
  | x :: r => match keyOf x, keysT r with
    | some k, some ks => some (k :: ks)
    | _, _ => none
theorem keysT_ok {K : PySem.W.Frag} {w : Wd} : ∀ {xs : List T} {vs : List V} {ks : List Key}, Paired (w.t K) xs vs → keysT xs = some ks → vs = ks.map kV
  | [], _, _, .nil, e => by cases e; rfl
  | x :: xs, v :: vs, ks, .cons h t, e => by
    unfold keysT at e
    split at e
    · rename_i k ks' h1 h2
      cases e
      rw [keysT_ok t h2, keyOf_ok h h1]
      rfl
    · cases e
theorem zip_pd {R : T → V → Prop} : ∀ {ks : List Key} {xs : List T} {vs : List V}, Paired R xs vs → Paired (fun p q => p.1 = q.1 ∧ R p.2 q.2) (ks.zip xs) (ks.zip vs)
  | [], _, _, _ => .nil
  | _ :: _, _, _, .nil => .nil
  | _ :: _, _, _, .cons a b => .cons ⟨rfl, a⟩ (zip_pd b)
def gDZ (μ : Mu) (xs : List T) : Option Cell := match xs with
  | [x, y] => match lstOf μ x, lstOf μ y with
    | some as, some bs => (keysT as).map fun ks => Cell.dct (mergeT [] (ks.zip bs))
    | _, _ => none
  | _ => none
theorem cn_dz {K : PySem.W.Frag} : CallN K (rDZ K) gDZ := fun w xs vs c s hx e => by
  unfold gDZ at e
  split at e
  · rename_i x y
    split at e
    · rename_i as bs h1 h2
      obtain ⟨ks, h3, e⟩ := Option.map_eq_some_iff.mp e
      subst e
      obtain ⟨v, u, rfl, hv, hu⟩ := two_of hx
      obtain ⟨a, av, a1, a2, a3⟩ := lst_ok s hv h1
      obtain ⟨b, bv, b1, b2, b3⟩ := lst_ok s hu h2
      have hk := keysT_ok a3 h3
      subst hk
      exact ⟨.dK (mergeK [] (ks.zip bv)), merge_ok (zip_pd b3) .nil, fun Q q => ⟨a, b, ks, bv, by rw [a1, b1], a2, b2, q⟩⟩
    · cases e
  · cases e
theorem pc_dictZip {X : Cx} {E : XK} {K : PySem.W.Frag} {e e2 : Expr} {ta : TA} {f : AF} {p p2 pos pos2 : Pos} (hmd : X.mg "dict" = none) (hmz : X.mg "zip" = none) (ha : PL K X E [e, e2] ta f) (hc : X.calm = true := by rfl) (hgd : Gl X "dict" := by rfl) (hgz : Gl X "zip" := by rfl)
    (hsd : starEach [.Call (.Name "zip" p2) [e, e2] [] pos2] X.env = (false, eval (.Call (.Name "zip" p2) [e, e2] [] pos2) X.env) :: starEach [] X.env := by rfl)
    (hs : starEach [e, e2] X.env = (false, eval e X.env) :: starEach [e2] X.env := by rfl) (hpl : (backTo pos2 (starEach [e2] X.env)).any (·.1) = false := by rfl) (hK : X.K = K := by rfl) :
    PCr K X E (.Call (.Name "dict" p) [.Call (.Name "zip" p2) [e, e2] [] pos2] [] pos) (tCB (rDZ K) ta) (cB gDZ f) := by
  subst hK
  exact ⟨pe_dictZip hc hmd hmz ha.pe hgd hgz hsd hs hpl, cok_B cn_dz ha.ok⟩
end Fm
set_option Elab.async false
set_option linter.all false
set_option maxRecDepth 100000
namespace Fm
open PySem L2 PySem.Spec PyProof.Rows
/-- _has_only -/
def b__has_only : SF := (sRet (eB gAll (aCons (eFz (cComp [2] (iStrD (eVar 0)) (gN 2) bTrue (eOp (gInS false) (eVar 2) (eVar 1)))) aNil)))
noncomputable def F__has_only : FN := fnB 3 (b__has_only )
/-- is_name -/
def b_is_name (f__has_only : FN) : SF := (sSeq (sIf (bOr (bNot (bT (eIsi "str" (eVar 0)))) (bNot (bE (eChain gLe gLe (eC (.int 1)) (eB gLen (aCons (eVar 0) aNil)) (eC (.int 8)))))) (sRet (eC (.bl false))) sNx)
    (sRet (eAnd (eOp (gInS false) (eOp gIx (eVar 0) (eC (.int 0))) (eC (.str "abcdefghijklmnopqrstuvwxyz"))) (eDef f__has_only (aCons (eVar 0) (aCons (eOp gAdd (eC (.str "abcdefghijklmnopqrstuvwxyz")) (eC (.str "0123456789"))) aNil))))))
noncomputable def F_is_name : FN := fnB 1 (b_is_name (F__has_only))
/-- kind_of -/
def b_kind_of : SF := (sSeq (sIf (bT (eIsi "int" (eVar 0))) (sRet (eC (.int 0))) sNx)
    (sSeq (sIf (bT (eIsi "str" (eVar 0))) (sRet (eC (.int 1))) sNx)
    (sSeq (sIf (bT (eIsi "list" (eVar 0))) (sRet (eC (.int 2))) sNx)
    (sSeq (sIf (bT (eIsi "dict" (eVar 0))) (sRet (eC (.int 3))) sNx)
    (sRet (eC (.int 4)))))))
noncomputable def F_kind_of : FN := fnB 1 (b_kind_of )
/-- sorted_fields -/
def b_sorted_fields : SF := (sRet (eFz (cComp [1] (iLst (eFz (cB gSorted (aCons (eVar 0) aNil)))) (gN 1) bTrue (eTup (aCons (eVar 1) (aCons (eOp gIx (eVar 0) (eVar 1)) aNil))))))
noncomputable def F_sorted_fields : FN := fnB 2 (b_sorted_fields )
/-- _named_parts -/
def b__named_parts (f_kind_of f_sorted_fields : FN) : SF := (sSeq (sAsg (eDef f_kind_of (aCons (eVar 0) aNil)) (gN 1))
    (sSeq (sIf (bE (eOp (gEqF false) (eVar 1) (eC (.int 2)))) (sRet (eFz (cComp [2] (iLst (eVar 0)) (gN 2) bTrue (eTup (aCons (eC (.str "")) (aCons (eVar 2) aNil)))))) sNx)
    (sSeq (sIf (bE (eOp (gEqF false) (eVar 1) (eC (.int 3)))) (sRet (eDef f_sorted_fields (aCons (eVar 0) aNil))) sNx)
    (sSeq (sIf (bE (eOp (gEqF false) (eVar 1) (eC (.int 4)))) (sRet (eFz (cLst (aCons (eVar 0) aNil)))) sNx)
    (sRet (eFz (cLst aNil)))))))
noncomputable def F__named_parts : FN := fnB 3 (b__named_parts (F_kind_of) (F_sorted_fields))
/-- parts_of -/
def b_parts_of (f__named_parts : FN) : SF := (sRet (eFz (cComp [1, 2] (iLst (eDef f__named_parts (aCons (eVar 0) aNil))) (gTp [1, 2]) bTrue (eVar 2))))
noncomputable def F_parts_of : FN := fnB 3 (b_parts_of (F__named_parts))
/-- _own_size -/
def b__own_size : SF := (sRet (eIf (bT (eIsi "str" (eVar 0))) (eOp gAdd (eC (.int 1)) (eB gLen (aCons (eVar 0) aNil))) (eC (.int 1))))
noncomputable def F__own_size : FN := fnB 1 (b__own_size )
/-- _has_depth -/
def b__has_depth (f_kind_of : FN) : SF := (sRet (eOp gGe (eDef f_kind_of (aCons (eVar 0) aNil)) (eC (.int 2))))
noncomputable def F__has_depth : FN := fnB 1 (b__has_depth (F_kind_of))
/-- _keeps_own_bounds -/
def b__keeps_own_bounds (f__has_only f_is_name : FN) : SF := (sSeq (sIf (bT (eIsi "bool" (eVar 0))) (sRet (eC (.bl false))) sNx)
    (sSeq (sIf (bT (eIsi "int" (eVar 0))) (sRet (eChain gLe gLe (eNeg (eC (.int 1000000))) (eVar 0) (eC (.int 1000000)))) sNx)
    (sSeq (sIf (bT (eIsi "str" (eVar 0))) (sRet (eAnd (eOp gLe (eB gLen (aCons (eVar 0) aNil)) (eC (.int 20))) (eDef f__has_only (aCons (eVar 0) (aCons (eC (.str "abcdefghijklmnopqrstuvwxyz")) aNil))))) sNx)
    (sSeq (sIf (bT (eIsi "dict" (eVar 0))) (sRet (eAnd (eOp gLe (eB gLen (aCons (eVar 0) aNil)) (eC (.int 8))) (eB gAll (aCons (eFz (cCompK 0 [1] (gN 1) bTrue (eDef f_is_name (aCons (eVar 1) aNil)))) aNil)))) sNx)
    (sSeq (sIf (bT (eIsi "tuple" (eVar 0))) (sRet (eAnd (eOp (gEqF false) (eB gLen (aCons (eVar 0) aNil)) (eC (.int 2))) (eDef f_is_name (aCons (eOp gIx (eVar 0) (eC (.int 0))) aNil)))) sNx)
    (sRet (eIsi "list" (eVar 0))))))))
noncomputable def F__keeps_own_bounds : FN := fnB 2 (b__keeps_own_bounds (F__has_only) (F_is_name))
/-- is_value -/
noncomputable def b_is_value (f__own_size f__keeps_own_bounds f__has_depth f_parts_of : FN) : SF := (sSeq (sAsg (eC (.int 0)) (gN 1))
    (sSeq (sAsg (eNew (cLst (aCons (eTup (aCons (eVar 0) (aCons (eC (.int 0)) aNil))) aNil))) (gN 2))
    (sSeq (sWhile (bT (eVar 2)) (sSeq (sAsg (eBM yLst gPop (eVar 2) aNil) (gTp [3, 4]))
    (sSeq (sIf (bOr (bNot (bT (eDef f__keeps_own_bounds (aCons (eVar 3) aNil)))) (bAnd (bT (eDef f__has_depth (aCons (eVar 3) aNil))) (bE (eOp (gEqF false) (eVar 4) (eC (.int 20)))))) (sRet (eC (.bl false))) sNx)
    (sSeq (sAug 1 gAdd (eDef f__own_size (aCons (eVar 3) aNil)))
    (sSeq (sIf (bE (eOp gGt (eVar 1) (eC (.int 300)))) (sRet (eC (.bl false))) sNx)
    (sDrop (eBM yLst gExt (eVar 2) (aCons (eFz (cComp [5] (iLst (eDef f_parts_of (aCons (eVar 3) aNil))) (gN 5) bTrue (eTup (aCons (eVar 5) (aCons (eOp gAdd (eVar 4) (eC (.int 1))) aNil))))) aNil))))))))
    (sRet (eC (.bl true))))))
noncomputable def F_is_value : FN := fnB 6 (b_is_value (F__own_size) (F__keeps_own_bounds) (F__has_depth) (F_parts_of))
/-- _law_cell -/
def b__law_cell : SF := (sSeq (sIf (bE (eOp gLt (eVar 1) (eB gLen (aCons (eVar 0) aNil)))) (sRet (eOp gIx (eVar 0) (eVar 1))) sNx)
    (sRet (eC (.int 0))))
noncomputable def F__law_cell : FN := fnB 2 (b__law_cell )
/-- _law_digits -/
def b__law_digits (f__law_cell : FN) : SF := (sSeq (sAsg (eNew (cLst aNil)) (gN 3))
    (sSeq (sFor (iRg rng2 (aCons (eVar 1) (aCons (eVar 2) aNil))) (gN 4) (sSeq (sAsg (eDef f__law_cell (aCons (eVar 0) (aCons (eVar 4) aNil))) (gN 5))
    (sSeq (sIf (bE (eOp gLt (eVar 5) (eC (.int 0)))) (sAsg (eOp (gI fun i j => .int (i - j)) (eC (.int 1)) (eOp (gIc cMul fun i j => .int (i * j)) (eC (.int 2)) (eVar 5))) (gN 5)) sNx)
    (sIf (bE (eOp gGe (eVar 5) (eOp (gIc (fun i j => decide (0 ≤ j ∧ j ≤ 1000000 ∧ i.natAbs < 2 ^ 64)) fun i j => .int (i ^ j.toNat)) (eC (.int 10)) (eC (.int 18))))) (sFor (iRg rng1 (aCons (eC (.int 60)) aNil)) (gN 6) (sIf (bE (eOp gGt (eVar 5) (eC (.int 0)))) (sSeq (sDrop (eBM yLst gApp (eVar 3) (aCons (eOp (gIc (fun _ j => decide (0 < j)) fun i j => .int (i % j)) (eB gInt (aCons (eVar 5) aNil)) (eC (.int 1000))) aNil)))
    (sAsg (eOp (gIc (fun _ j => decide (0 < j ∧ j < 1073741824)) fun i j => .int (i / j)) (eVar 5) (eC (.int 1000))) (gN 5))) sNx)) (sSeq (sAsg (eOp (gIc (fun _ j => decide (0 < j)) fun i j => .int (i % j)) (eB gInt (aCons (eOp gAdd (eOp gAdd (eOp (gIc cMul fun i j => .int (i * j)) (eVar 5) (eC (.int 48271))) (eOp (gIc cMul fun i j => .int (i * j)) (eVar 4) (eC (.int 69621)))) (eC (.int 11))) aNil)) (eC (.int 2147483647))) (gN 7))
    (sFor (iRg rng1 (aCons (eC (.int 12)) aNil)) (gN 6) (sSeq (sAsg (eOp (gIc (fun _ j => decide (0 < j)) fun i j => .int (i % j)) (eB gInt (aCons (eOp gAdd (eOp gAdd (eOp (gIc cMul fun i j => .int (i * j)) (eVar 7) (eC (.int 16807))) (eOp (gIc cMul fun i j => .int (i * j)) (eC (.int 7)) (eVar 6))) (eC (.int 1))) aNil)) (eC (.int 2147483647))) (gN 7))
    (sDrop (eBM yLst gApp (eVar 3) (aCons (eOp (gIc (fun _ j => decide (0 < j)) fun i j => .int (i % j)) (eB gInt (aCons (eOp (gIc (fun _ j => decide (0 < j ∧ j < 1073741824)) fun i j => .int (i / j)) (eVar 7) (eC (.int 997))) aNil)) (eC (.int 1000))) aNil))))))))))
    (sFz 3 (sRet (eVar 3)))))
noncomputable def F__law_digits : FN := fnB 8 (b__law_digits (F__law_cell))
/-- _law_draw -/
def b__law_draw : SF := (sSeq (sAsg (eOp gIx (eVar 0) (eC (.int 1))) (gN 2))
    (sSeq (sPut setL (eOp gAdd (eVar 2) (eC (.int 1))) (eVar 0) (eC (.int 1)))
    (sSeq (sIf (bE (eOp gLt (eVar 2) (eB gLen (aCons (eOp gIx (eVar 0) (eC (.int 0))) aNil)))) (sRet (eOp (gIc (fun _ j => decide (0 < j)) fun i j => .int (i % j)) (eB gInt (aCons (eOp gIx (eOp gIx (eVar 0) (eC (.int 0))) (eVar 2)) aNil)) (eVar 1))) sNx)
    (sRet (eC (.int 0))))))
noncomputable def F__law_draw : FN := fnB 3 (b__law_draw )
/-- _law_name -/
def b__law_name (f__law_draw : FN) : SF := (sRet (eOp gIx (eFz (cLst (aCons (eC (.str "a")) (aCons (eC (.str "b")) (aCons (eC (.str "c")) (aCons (eC (.str "ab")) (aCons (eC (.str "x1")) (aCons (eC (.str "zz")) (aCons (eC (.str "b9")) (aCons (eC (.str "abcdefgh")) aNil)))))))))) (eDef f__law_draw (aCons (eVar 0) (aCons (eC (.int 8)) aNil)))))
noncomputable def F__law_name : FN := fnB 1 (b__law_name (F__law_draw))
/-- _law_word -/
def b__law_word (f__law_draw : FN) : SF := (sSeq (sAsg (eC (.str "")) (gN 1))
    (sSeq (sFor (iRg rng1 (aCons (eDef f__law_draw (aCons (eVar 0) (aCons (eC (.int 4)) aNil))) aNil)) (gN 2) (sAsg (eOp gAdd (eVar 1) (eOp gIx (eC (.str "abz")) (eDef f__law_draw (aCons (eVar 0) (aCons (eC (.int 3)) aNil))))) (gN 1)))
    (sRet (eVar 1))))
noncomputable def F__law_word : FN := fnB 3 (b__law_word (F__law_draw))
/-- _law_number -/
def b__law_number (f__law_draw : FN) : SF := (sSeq (sAsg (eDef f__law_draw (aCons (eVar 0) (aCons (eC (.int 4)) aNil))) (gN 1))
    (sSeq (sIf (bE (eOp (gEqF false) (eVar 1) (eC (.int 0)))) (sRet (eOp (gI fun i j => .int (i - j)) (eDef f__law_draw (aCons (eVar 0) (aCons (eC (.int 3)) aNil))) (eC (.int 1)))) sNx)
    (sSeq (sIf (bE (eOp (gEqF false) (eVar 1) (eC (.int 1)))) (sRet (eOp (gI fun i j => .int (i - j)) (eDef f__law_draw (aCons (eVar 0) (aCons (eC (.int 40)) aNil))) (eC (.int 20)))) sNx)
    (sSeq (sIf (bE (eOp (gEqF false) (eVar 1) (eC (.int 2)))) (sRet (eOp gAdd (eOp (gIc cMul fun i j => .int (i * j)) (eDef f__law_draw (aCons (eVar 0) (aCons (eC (.int 1000)) aNil))) (eC (.int 1000))) (eDef f__law_draw (aCons (eVar 0) (aCons (eC (.int 1000)) aNil))))) sNx)
    (sRet (eOp (gI fun i j => .int (i - j)) (eC (.int 1000000)) (eOp (gIc cMul fun i j => .int (i * j)) (eC (.int 2000000)) (eDef f__law_draw (aCons (eVar 0) (aCons (eC (.int 2)) aNil))))))))))
noncomputable def F__law_number : FN := fnB 2 (b__law_number (F__law_draw))
/-- _law_value -/
def b__law_value (f__law_draw f__law_word f__law_name f__law_value f__law_number : FN) : SF := (sSeq (sAsg (eDef f__law_draw (aCons (eVar 0) (aCons (eC (.int 8)) aNil))) (gN 2))
    (sSeq (sIf (bOr (bE (eOp (gEqF false) (eVar 1) (eC (.int 0)))) (bE (eOp gLt (eVar 2) (eC (.int 2))))) (sSeq (sIf (bOr (bE (eOp gLt (eVar 2) (eC (.int 3)))) (bE (eOp (gEqF false) (eVar 2) (eC (.int 4))))) (sRet (eDef f__law_number (aCons (eVar 0) aNil))) sNx)
    (sRet (eDef f__law_word (aCons (eVar 0) aNil)))) sNx)
    (sSeq (sIf (bE (eOp gLt (eVar 2) (eC (.int 4)))) (sRet (eFz (cComp [4] (iRg rng1 (aCons (eDef f__law_draw (aCons (eVar 0) (aCons (eC (.int 4)) aNil))) aNil)) (gN 4) bTrue (eDef f__law_value (aCons (eVar 0) (aCons (eOp (gI fun i j => .int (i - j)) (eVar 1) (eC (.int 1))) aNil)))))) sNx)
    (sSeq (sIf (bE (eOp gLt (eVar 2) (eC (.int 6)))) (sSeq (sAsg (eNew cDct0) (gN 3))
    (sSeq (sFor (iRg rng1 (aCons (eDef f__law_draw (aCons (eVar 0) (aCons (eC (.int 4)) aNil))) aNil)) (gN 4) (sPut setD (eDef f__law_value (aCons (eVar 0) (aCons (eOp (gI fun i j => .int (i - j)) (eVar 1) (eC (.int 1))) aNil))) (eVar 3) (eDef f__law_name (aCons (eVar 0) aNil))))
    (sFz 3 (sRet (eVar 3))))) sNx)
    (sRet (eTup (aCons (eDef f__law_name (aCons (eVar 0) aNil)) (aCons (eDef f__law_value (aCons (eVar 0) (aCons (eOp (gI fun i j => .int (i - j)) (eVar 1) (eC (.int 1))) aNil))) aNil))))))))
noncomputable def F__law_value : Nat → FN
  | 0 => fun _ _ => none
  | n + 1 => fnB 5 (b__law_value (F__law_draw) (F__law_word) (F__law_name) (F__law_value n) (F__law_number))
/-- _law_parts -/
def b__law_parts (f__law_rank : FN) : SF := (sSeq (sAsg (eDef f__law_rank (aCons (eVar 0) aNil)) (gN 1))
    (sSeq (sIf (bE (eOp (gEqF false) (eVar 1) (eC (.int 2)))) (sRet (eFz (cComp [2] (iLst (eVar 0)) (gN 2) bTrue (eVar 2)))) sNx)
    (sSeq (sIf (bE (eOp (gEqF false) (eVar 1) (eC (.int 3)))) (sRet (eFz (cComp [3] (iLst (eFz (cB gSorted (aCons (eVar 0) aNil)))) (gN 3) bTrue (eOp gIx (eVar 0) (eVar 3))))) sNx)
    (sSeq (sIf (bE (eOp (gEqF false) (eVar 1) (eC (.int 4)))) (sRet (eFz (cLst (aCons (eOp gIx (eVar 0) (eC (.int 1))) aNil)))) sNx)
    (sRet (eFz (cLst aNil)))))))
noncomputable def F__law_parts : FN := fnB 4 (b__law_parts (F_kind_of))
/-- _law_size -/
def b__law_size (f__law_parts f__law_rank f__law_size : FN) : SF := (sSeq (sIf (bE (eOp (gEqF false) (eDef f__law_rank (aCons (eVar 0) aNil)) (eC (.int 1)))) (sRet (eOp gAdd (eC (.int 1)) (eB gLen (aCons (eVar 0) aNil)))) sNx)
    (sSeq (sAsg (eC (.int 1)) (gN 1))
    (sSeq (sFor (iLst (eDef f__law_parts (aCons (eVar 0) aNil))) (gN 2) (sAsg (eOp gAdd (eVar 1) (eDef f__law_size (aCons (eVar 2) aNil))) (gN 1)))
    (sRet (eVar 1)))))
noncomputable def F__law_size : Nat → FN
  | 0 => fun _ _ => none
  | n + 1 => fnB 3 (b__law_size (F__law_parts) (F_kind_of) (F__law_size n))
/-- _law_letters -/
def b__law_letters : SF := (sSeq (sFor (iRg rng1 (aCons (eB gLen (aCons (eVar 0) aNil)) aNil)) (gN 2) (sIf (bAnd (bE (eOp (gInS true) (eOp gIx (eVar 0) (eVar 2)) (eC (.str "abcdefghijklmnopqrstuvwxyz")))) (bOr (bE (eOp gLt (eVar 2) (eVar 1))) (bE (eOp (gInS true) (eOp gIx (eVar 0) (eVar 2)) (eC (.str "0123456789")))))) (sRet (eC (.bl false))) sNx))
    (sRet (eC (.bl true))))
noncomputable def F__law_letters : FN := fnB 3 (b__law_letters )
/-- _law_spoilt -/
def b__law_spoilt (f__law_draw : FN) : SF := (sSeq (sIf (bE (eOp (gEqF false) (eVar 1) (eC (.int 0)))) (sRet (eOp (gIc cMul fun i j => .int (i * j)) (eOp (gI fun i j => .int (i - j)) (eOp gAdd (eC (.int 1000000)) (eC (.int 1))) (eVar 2)) (eOp gIx (eFz (cLst (aCons (eC (.int 1)) (aCons (eNeg (eC (.int 1))) aNil)))) (eDef f__law_draw (aCons (eVar 0) (aCons (eC (.int 2)) aNil)))))) sNx)
    (sSeq (sIf (bE (eOp (gEqF false) (eVar 1) (eC (.int 1)))) (sRet (eSlS (eC (.str "aaaaaaaaaaaaaaaaaaaaa")) oNone (oSome (eOp (gI fun i j => .int (i - j)) (eC (.int 21)) (eVar 2))))) sNx)
    (sSeq (sIf (bE (eOp (gEqF false) (eVar 1) (eC (.int 2)))) (sRet (eOp gIx (eFz (cLst (aCons (eC (.str "a")) (aCons (eC (.str "aB")) (aCons (eC (.str "a_")) (aCons (eC (.str "a b")) aNil)))))) (eOp (gIc cMul fun i j => .int (i * j)) (eOp (gI fun i j => .int (i - j)) (eC (.int 1)) (eVar 2)) (eOp gAdd (eC (.int 1)) (eDef f__law_draw (aCons (eVar 0) (aCons (eC (.int 3)) aNil))))))) sNx)
    (sSeq (sIf (bE (eOp (gEqF false) (eVar 1) (eC (.int 3)))) (sRet (eFz (cDisp (ppC (eSlS (eC (.str "abcdefghi")) oNone (oSome (eOp (gI fun i j => .int (i - j)) (eC (.int 9)) (eVar 2)))) (eC (.int 1)) ppN)))) sNx)
    (sSeq (sIf (bE (eOp (gEqF false) (eVar 1) (eC (.int 4)))) (sSeq (sAsg (eNew cDct0) (gN 5))
    (sSeq (sFor (iRg rng1 (aCons (eOp (gI fun i j => .int (i - j)) (eC (.int 9)) (eVar 2)) aNil)) (gN 4) (sPut setD (eVar 4) (eVar 5) (eOp gIx (eC (.str "abcdefghi")) (eVar 4))))
    (sFz 5 (sRet (eVar 5))))) sNx)
    (sSeq (sIf (bE (eOp (gEqF false) (eVar 1) (eC (.int 5)))) (sRet (eTup (aCons (eOp gIx (eFz (cLst (aCons (eC (.str "t")) (aCons (eC (.str "T")) (aCons (eC (.str "9t")) (aCons (eC (.str "")) aNil)))))) (eOp (gIc cMul fun i j => .int (i * j)) (eOp (gI fun i j => .int (i - j)) (eC (.int 1)) (eVar 2)) (eOp gAdd (eC (.int 1)) (eDef f__law_draw (aCons (eVar 0) (aCons (eC (.int 3)) aNil)))))) (aCons (eC (.int 0)) aNil)))) sNx)
    (sSeq (sIf (bE (eOp (gEqF false) (eVar 1) (eC (.int 6)))) (sRet (eFz (cComp [4] (iRg rng1 (aCons (eOp (gI fun i j => .int (i - j)) (eC (.int 300)) (eVar 2)) aNil)) (gN 4) bTrue (eC (.int 0))))) sNx)
    (sSeq (sAsg (eC (.int 0)) (gN 3))
    (sSeq (sFor (iRg rng1 (aCons (eOp (gI fun i j => .int (i - j)) (eC (.int 21)) (eVar 2)) aNil)) (gN 4) (sAsg (eFz (cLst (aCons (eVar 3) aNil))) (gN 3)))
    (sRet (eVar 3)))))))))))
noncomputable def F__law_spoilt : FN := fnB 6 (b__law_spoilt (F__law_draw))
/-- law -/
def b_law_k00 (f__law_value f__law_draw f__law_spoilt f__law_digits f_is_value f_is_name f__law_size f__law_letters : FN) : SF := (sSeq (sAsg (eNew (cLst (aCons (eDef f__law_digits (aCons (eVar 0) (aCons (eC (.int 0)) (aCons (eC (.int 63)) aNil)))) (aCons (eC (.int 0)) aNil)))) (gN 1))
    (sSeq (sAsg (eC (.str "")) (gN 2))
    (sSeq (sFor (iRg rng1 (aCons (eDef f__law_draw (aCons (eVar 1) (aCons (eC (.int 11)) aNil))) aNil)) (gN 3) (sAsg (eOp gAdd (eVar 2) (eOp gIx (eC (.str "aazz09xA_ ")) (eDef f__law_draw (aCons (eVar 1) (aCons (eC (.int 10)) aNil))))) (gN 2)))
    (sSeq (sIf (bOr (bE (eOp (gEqF true) (eDef f_is_name (aCons (eVar 2) aNil)) (eAnd (eChain gLe gLe (eC (.int 1)) (eB gLen (aCons (eVar 2) aNil)) (eC (.int 8))) (eDef f__law_letters (aCons (eVar 2) (aCons (eC (.int 1)) aNil)))))) (bNot (bT (eIsi "bool" (eDef f_is_name (aCons (eVar 2) aNil)))))) (sRet (eC (.bl false))) sNx)
    (sSeq (sAsg (eDef f__law_value (aCons (eVar 1) (aCons (eC (.int 3)) aNil))) (gN 4))
    (sSeq (sIf (bE (eOp (gEqF true) (eDef f_is_value (aCons (eVar 4) aNil)) (eOp gLe (eDef f__law_size (aCons (eVar 4) aNil)) (eC (.int 300))))) (sRet (eC (.bl false))) sNx)
    (sSeq (sAsg (eDef f__law_draw (aCons (eVar 1) (aCons (eC (.int 2)) aNil))) (gN 5))
    (sSeq (sAsg (eDef f__law_draw (aCons (eVar 1) (aCons (eC (.int 8)) aNil))) (gN 6))
    (sSeq (sAsg (eDef f__law_spoilt (aCons (eVar 1) (aCons (eVar 6) (aCons (eVar 5) aNil)))) (gN 7))
    (sSeq (sIf (bE (eOp (gEqF true) (eDef f_is_value (aCons (eVar 7) aNil)) (eOp (gEqF false) (eVar 5) (eC (.int 1))))) (sRet (eC (.bl false))) sNx)
    (sSeq (sIf (bAnd (bE (eOp gLt (eVar 6) (eC (.int 6)))) (bE (eOp (gEqF false) (eVar 5) (eC (.int 0))))) (sRet (eOp (g2or (gIsN false) (gIsB false)) (eDef f_is_value (aCons (eFz (cLst (aCons (eVar 4) (aCons (eTup (aCons (eC (.str "t")) (aCons (eFz (cDisp (ppC (eC (.str "a")) (eVar 7) ppN))) aNil))) aNil)))) aNil)) (eC (.bl false)))) sNx)
    (sRet (eC (.bl true))))))))))))))
noncomputable def F_law_k00 : FN := fnB 8 (b_law_k00 (F__law_value 4) (F__law_draw) (F__law_spoilt) (F__law_digits) (F_is_value) (F_is_name) (F__law_size 4) (F__law_letters))
end Fm
set_option Elab.async false
set_option linter.all false
set_option maxRecDepth 100000
namespace Fm
open PySem L2 PySem.Spec PyProof.Rows

/-! ### values as a type of their own -/
inductive Vl where
  | int (i : Int) | str (s : Str) | lst (xs : List Vl) | rc (kvs : List (Str × Vl)) | tag (n : Str) (v : Vl)
mutual
def Vl.D : Vl → D
  | .int i => .int i
  | .str s => .str s
  | .lst xs => .lst (Vl.Ds xs)
  | .rc kvs => .dct (Vl.Dk kvs)
  | .tag n v => .tup [.str n, v.D]
def Vl.Ds : List Vl → List D
  | [] => []
  | v :: r => v.D :: Vl.Ds r
def Vl.Dk : List (Str × Vl) → List (Key × D)
  | [] => []
  | (n, v) :: r => (.inr n, v.D) :: Vl.Dk r
end
theorem Vl.Ds_map : ∀ xs : List Vl, Vl.Ds xs = xs.map Vl.D
  | [] => rfl
  | v :: r => by rw [Vl.Ds, Vl.Ds_map r] <;> rfl
theorem Vl.Dk_map : ∀ kvs : List (Str × Vl), Vl.Dk kvs = kvs.map fun p => (Sum.inr p.1, p.2.D)
  | [] => rfl
  | (n, v) :: r => by rw [Vl.Dk, Vl.Dk_map r] <;> rfl
/-- the fields by ascending names -/
def fget (kvs : List (Str × Vl)) (n : Str) : Vl := match kvs.find? fun p => decide (p.1 = n) with
  | some p => p.2
  | none => .int 0
def fsort (kvs : List (Str × Vl)) : List (Str × Vl) := (sortS (kvs.map (·.1))).map fun n => (n, fget kvs n)
def Vl.kind : Vl → Int
  | .int _ => 0
  | .str _ => 1
  | .lst _ => 2
  | .rc _ => 3
  | .tag _ _ => 4
def Vl.parts : Vl → List Vl
  | .lst xs => xs
  | .rc kvs => (fsort kvs).map (·.2)
  | .tag _ v => [v]
  | _ => []
mutual
def Vl.size : Vl → Nat
  | .int _ => 1
  | .str s => 1 + s.length
  | .lst xs => 1 + Vl.sizes xs
  | .rc kvs => 1 + Vl.sizek kvs
  | .tag _ v => 1 + v.size
def Vl.sizes : List Vl → Nat
  | [] => 0
  | v :: r => v.size + Vl.sizes r
def Vl.sizek : List (Str × Vl) → Nat
  | [] => 0
  | (_, v) :: r => v.size + Vl.sizek r
end
theorem Vl.sizes_sum : ∀ xs : List Vl, Vl.sizes xs = (xs.map Vl.size).sum
  | [] => rfl
  | v :: r => by rw [Vl.sizes, Vl.sizes_sum r, List.map_cons, List.sum_cons]
theorem Vl.sizek_sum : ∀ xs : List (Str × Vl), Vl.sizek xs = (xs.map fun p => p.2.size).sum
  | [] => rfl
  | (n, v) :: r => by rw [Vl.sizek, Vl.sizek_sum r, List.map_cons, List.sum_cons]
/-! what Python's values keep: a dict's names differ; what is long is not too long -/
mutual
def Vl.Wf : Vl → Prop
  | .int _ => True
  | .str s => s.length ≤ 1000
  | .lst xs => xs.length ≤ 1000 ∧ Vl.Wfs xs
  | .rc kvs => kvs.length < 64 ∧ (kvs.map (·.1)).Nodup ∧ Vl.Wfk kvs
  | .tag n v => n.length ≤ 1000 ∧ v.Wf
def Vl.Wfs : List Vl → Prop
  | [] => True
  | v :: r => v.Wf ∧ Vl.Wfs r
def Vl.Wfk : List (Str × Vl) → Prop
  | [] => True
  | (n, v) :: r => n.length ≤ 1000 ∧ v.Wf ∧ Vl.Wfk r
end
theorem Vl.Wfs_all : ∀ {xs : List Vl}, Vl.Wfs xs ↔ ∀ v ∈ xs, v.Wf
  | [] => by simp [Vl.Wfs]
  | v :: r => by rw [Vl.Wfs, Vl.Wfs_all]; simp
theorem Vl.Wfk_all : ∀ {xs : List (Str × Vl)}, Vl.Wfk xs ↔ ∀ p ∈ xs, p.1.length ≤ 1000 ∧ p.2.Wf
  | [] => by simp [Vl.Wfk]
  | (n, v) :: r => by rw [Vl.Wfk, Vl.Wfk_all]; simp [and_assoc]
theorem fget_mem {kvs : List (Str × Vl)} (hn : (kvs.map (·.1)).Nodup) : ∀ {n : Str} {v : Vl}, (n, v) ∈ kvs → fget kvs n = v := by
  induction kvs with
  | nil => intro n v h; cases h
  | cons p r ih =>
    intro n v h
    obtain ⟨h1, h2⟩ := List.nodup_cons.mp hn
    unfold fget
    rw [List.find?_cons]
    rcases List.mem_cons.mp h with e | e
    · subst e
      simp
    · have hne : p.1 ≠ n := fun z => h1 (by show p.1 ∈ _; rw [z]; exact List.mem_map.mpr ⟨_, e, rfl⟩)
      rw [show decide (p.1 = n) = false from decide_eq_false hne]
      exact ih h2 e
theorem fsort_perm {kvs : List (Str × Vl)} (hn : (kvs.map (·.1)).Nodup) : (fsort kvs).Perm kvs := by
  unfold fsort
  have h1 := (sortS_perm (kvs.map (·.1))).map fun n => (n, fget kvs n)
  refine h1.trans ?_
  rw [List.map_map]
  have : kvs.map ((fun n => (n, fget kvs n)) ∘ fun p => p.1) = kvs := by
    conv => rhs; rw [← List.map_id kvs]
    refine List.map_congr_left fun p hp => ?_
    show (p.1, fget kvs p.1) = p
    rw [fget_mem hn (v := p.2) hp]
  rw [this]
theorem sizek_parts {kvs : List (Str × Vl)} (hn : (kvs.map (·.1)).Nodup) : Vl.sizek kvs = (((fsort kvs).map (·.2)).map Vl.size).sum := by
  rw [Vl.sizek_sum, List.map_map]
  exact (((fsort_perm hn).map fun p => p.2.size).sum_nat).symm
theorem size_parts : ∀ {v : Vl}, v.Wf → v.size = (match v with | .str s => 1 + s.length | _ => 1) + (v.parts.map Vl.size).sum
  | .int _, _ => rfl
  | .str s, _ => rfl
  | .lst xs, _ => by rw [Vl.size, Vl.sizes_sum] <;> rfl
  | .rc kvs, h => by rw [Vl.size, sizek_parts h.2.1] <;> rfl
  | .tag n v, _ => by simp [Vl.size, Vl.parts]
theorem parts_wf {v : Vl} (h : v.Wf) : ∀ p ∈ v.parts, p.Wf := by
  cases v with
  | int => intro p hp; cases hp
  | str => intro p hp; cases hp
  | lst xs => exact Vl.Wfs_all.mp h.2
  | rc kvs =>
    intro p hp
    obtain ⟨q, hq, e⟩ := List.mem_map.mp hp
    have := Vl.Wfk_all.mp h.2.2 q ((fsort_perm h.2.1).mem_iff.mp hq)
    rw [← e]
    exact this.2
  | tag n v =>
    intro p hp
    rw [List.mem_singleton.mp hp]
    exact h.2

/-! ### evaluation -/
@[simp] theorem kit_ii : kitB "int" "int" = some true := by decide +kernel
@[simp] theorem kit_ib : kitB "int" "bool" = some false := by decide +kernel
@[simp] theorem kit_is : kitB "int" "str" = some false := by decide +kernel
@[simp] theorem kit_sb : kitB "str" "bool" = some false := by decide +kernel
@[simp] theorem kit_si : kitB "str" "int" = some false := by decide +kernel
@[simp] theorem kit_ss : kitB "str" "str" = some true := by decide +kernel
@[simp] theorem kit_lb : kitB "list" "bool" = some false := by decide +kernel
@[simp] theorem kit_li : kitB "list" "int" = some false := by decide +kernel
@[simp] theorem kit_ls : kitB "list" "str" = some false := by decide +kernel
@[simp] theorem kit_ll : kitB "list" "list" = some true := by decide +kernel
@[simp] theorem kit_ld : kitB "list" "dict" = some false := by decide +kernel
@[simp] theorem kit_lt : kitB "list" "tuple" = some false := by decide +kernel
@[simp] theorem kit_db : kitB "dict" "bool" = some false := by decide +kernel
@[simp] theorem kit_di : kitB "dict" "int" = some false := by decide +kernel
@[simp] theorem kit_ds : kitB "dict" "str" = some false := by decide +kernel
@[simp] theorem kit_dl : kitB "dict" "list" = some false := by decide +kernel
@[simp] theorem kit_dd : kitB "dict" "dict" = some true := by decide +kernel
@[simp] theorem kit_tb : kitB "tuple" "bool" = some false := by decide +kernel
@[simp] theorem kit_ti : kitB "tuple" "int" = some false := by decide +kernel
@[simp] theorem kit_ts : kitB "tuple" "str" = some false := by decide +kernel
@[simp] theorem kit_tl : kitB "tuple" "list" = some false := by decide +kernel
@[simp] theorem kit_td : kitB "tuple" "dict" = some false := by decide +kernel
@[simp] theorem kit_tt : kitB "tuple" "tuple" = some true := by decide +kernel
@[simp] theorem kit_bb : kitB "bool" "bool" = some true := by decide +kernel
@[simp] theorem kit_bi : kitB "bool" "int" = some true := by decide +kernel
theorem kind_eq (v : Vl) (μ : Mu) : F_kind_of [.d v.D] μ = some (.ok (.d (.int v.kind)) μ) := by
  cases v <;> simp [F_kind_of, fnB, b_kind_of, Vl.D, Vl.kind]
theorem keysOf_eq : ∀ kvs : List (Str × Vl), keysOf ((Vl.Dk kvs).map fun p => (p.1, T.d p.2)) = some (kvs.map (·.1))
  | [] => rfl
  | (n, v) :: r => by simp [Vl.Dk, keysOf, keysOf_eq r]
theorem valT_eq : ∀ (kvs : List (Str × Vl)) (n : Str), n ∈ kvs.map (·.1) → valT ((Vl.Dk kvs).map fun p => (p.1, T.d p.2)) (.inr n) = some (T.d (fget kvs n).D)
  | [], n, h => by cases h
  | (m, v) :: r, n, h => by
    unfold valT fget
    by_cases e : m = n
    · subst e
      simp [Vl.Dk]
    · have hr : n ∈ r.map (·.1) := by
        rcases List.mem_cons.mp h with q | q
        · exact absurd q.symm e
        · exact q
      have q := valT_eq r n hr
      unfold valT fget at q
      simp only [Vl.Dk, List.map_cons, List.find?_cons]
      rw [show decide ((Sum.inr m : Key) = Sum.inr n) = false from decide_eq_false fun z => e (Sum.inr.inj z), show decide (m = n) = false from decide_eq_false e]
      exact q
/-- a comprehension whose element leaves the store -/
theorem compL_map {i : Nat} {el : EF} {ρ : Rho} {μ : Mu} {f : T → T} : ∀ {xs acc : List T}, (∀ x ∈ xs, el (ρ.set i (some x)) μ = some (.ok (f x) μ)) → compL (gN i) bTrue el ρ xs acc μ = some (.ok (.lst (acc ++ xs.map f)) μ)
  | [], acc, _ => by simp [compL]
  | x :: r, acc, h => by
    have h1 := h x List.mem_cons_self
    have h2 := compL_map (i := i) (el := el) (ρ := ρ) (μ := μ) (f := f) (xs := r) (acc := acc ++ [f x]) fun y hy => h y (List.mem_cons_of_mem _ hy)
    simp [compL, noex, bTrue, h1, h2]
theorem dTs_d (μ : Mu) : ∀ ds : List D, dTs μ (ds.map T.d) = some ds
  | [] => rfl
  | d :: r => by simp [dTs, dTs_d μ r]
/-- the same over a list that stands for another one -/
theorem compL_mapH {α : Type} {i : Nat} {el : EF} {ρ : Rho} {μ : Mu} {h f : α → T} : ∀ {l : List α} {acc : List T}, (∀ a ∈ l, el (ρ.set i (some (h a))) μ = some (.ok (f a) μ)) → compL (gN i) bTrue el ρ (l.map h) acc μ = some (.ok (.lst (acc ++ l.map f)) μ)
  | [], acc, _ => by simp [compL]
  | x :: r, acc, hh => by
    have h1 := hh x List.mem_cons_self
    have h2 := compL_mapH (i := i) (el := el) (ρ := ρ) (μ := μ) (h := h) (f := f) (l := r) (acc := acc ++ [f x]) fun y hy => hh y (List.mem_cons_of_mem _ hy)
    simp [compL, noex, bTrue, h1, h2]
theorem bls_map {α : Type} (p : α → Bool) : ∀ l : List α, blsOf (l.map fun a => T.d (.bl (p a))) = some (l.map p)
  | [] => rfl
  | a :: r => by simp [blsOf, bls_map p r]
theorem sgn_one (c : Nat) : sgn ⟨#[c]⟩ = some c := rfl
theorem len_toList (z : Str) : z.cps.toList.length = z.length := by simp [Str.length]
def isIn (c : Nat) (s : Str) : Bool := decide (c ∈ s.cps.toList)
theorem in_1 {n : Bool} {μ : Mu} {c : Nat} {s : Str} : gInS n μ (.d (.str ⟨#[c]⟩)) (.d (.str s)) = some (.d (.bl (if n then !isIn c s else isIn c s))) := rfl
/-- each sign of z is one of s -/
def only (z s : Str) : Bool := z.cps.toList.all fun c => isIn c s
/-- all of a comprehension of truths -/
theorem all_of {α : Type} {μ : Mu} {p : α → Bool} {l : List α} : ofG gAll [.d (.lst (l.map fun a => D.bl (p a)))] μ = some (.ok (.d (.bl (l.all p))) μ) := by
  have hb := bls_map p l
  have e : (l.map fun a => D.bl (p a)).map T.d = l.map fun a => T.d (.bl (p a)) := by rw [List.map_map]; rfl
  simp only [ofG, gAll, lstOf, List.map_cons, List.map_nil, rd, e, hb, Option.bind_some, Option.map_some, mof, List.all_map, Function.comp_def, id]
theorem fz_of {μ : Mu} (ds : List D) : fzC (.lst (ds.map T.d)) μ = some (.ok (.d (.lst ds)) μ) := by
  simp only [fzC, Cell.data, dTs_d, Option.map_some]
theorem has_only_eq (z s : Str) (μ : Mu) (hz : z.length ≤ SL) : F__has_only [.d (.str z), .d (.str s)] μ = some (.ok (.d (.bl (only z s))) μ) := by
  have hc : compL (gN 2) bTrue (eOp (gInS false) (eVar 2) (eVar 1)) [some (.d (.str z)), some (.d (.str s)), none] (z.cps.toList.map fun c => T.d (.str ⟨#[c]⟩)) [] μ = some (.ok (.lst ((z.cps.toList.map fun c => D.bl (isIn c s)).map T.d)) μ) := by
    rw [List.map_map]
    exact compL_mapH (acc := []) fun c _ => by simp [in_1]
  have hl : (z.cps.toList.map fun c => T.d (.str ⟨#[c]⟩)).length ≤ SL := by rw [List.length_map, len_toList]; exact hz
  unfold only
  generalize hcs : z.cps.toList = cs at hc hl
  have hcs' : strD (.d (.str z)) = some (cs.map fun c => T.d (.str ⟨#[c]⟩)) := by
    show some (z.cps.toList.map fun c => T.d (.str ⟨#[c]⟩)) = _
    rw [hcs]
  generalize cs.map (fun c => T.d (.str ⟨#[c]⟩)) = xs at hc hl hcs'
  have hf := fz_of (μ := μ) (cs.map fun c => D.bl (isIn c s))
  have ha := all_of (μ := μ) (p := fun c => isIn c s) (l := cs)
  generalize cs.map (fun c => D.bl (isIn c s)) = ds at hc hf ha
  generalize (cs.all fun c => isIn c s) = b at ha
  have hl2 : xs.length ≤ 16777216 := hl
  simp [F__has_only, fnB, b__has_only, eB, eFz, cComp, iStrD, wipeR, hcs', hl2, hc, hf, ha]
end Fm
set_option Elab.async false
set_option linter.all false
set_option maxRecDepth 100000
namespace Fm
open PySem L2 PySem.Spec PyProof.Rows
/-! ### draws from a box of digits -/
def bx (ds : List Int) (k : Nat) : Cell := .lst [.d (.lst (ds.map D.int)), .d (.int k)]
def Bx (μ : Mu) (b : Nat) (ds : List Int) (k : Nat) : Mu := μ.set b (bx ds k)
def drw (ds : List Int) (k : Nat) (m : Int) : Int := match ds[k]? with
  | some d => d % m
  | none => 0
theorem drw_lo {ds : List Int} {k : Nat} {m : Int} (h : 0 < m) : 0 ≤ drw ds k m := by
  unfold drw
  split
  · exact Int.emod_nonneg _ (by omega)
  · omega
theorem drw_hi {ds : List Int} {k : Nat} {m : Int} (h : 0 < m) : drw ds k m < m := by
  unfold drw
  split
  · exact Int.emod_lt_of_pos _ h
  · omega
theorem Bx_len {μ : Mu} {b : Nat} {ds : List Int} {k : Nat} : (Bx μ b ds k).length = μ.length := List.length_set ..
theorem Bx_get {μ : Mu} {b : Nat} {ds : List Int} {k : Nat} (h : b < μ.length) : (Bx μ b ds k)[b]? = some (bx ds k) := List.getElem?_set_self h
theorem Bx_set {μ : Mu} {b : Nat} {ds : List Int} {k : Nat} {j : Nat} : (Bx μ b ds k).set b (bx ds j) = Bx μ b ds j := List.set_set ..
theorem bx_lt {ds : List Int} {j k : Nat} : (bx ds j).lt k := by
  intro x hx
  simp [bx] at hx
  rcases hx with h | h <;> subst h <;> trivial
theorem Bx_fin {μ : Mu} {b : Nat} {ds : List Int} {k j : Nat} {x : D} : finMu (Bx μ b ds k) (Bx μ b ds j) (.d x) = Bx μ b ds j := by
  have h := finMu_set0 (μ := Bx μ b ds k) (x := x) (b := b) (c := bx ds j) fun _ => bx_lt
  rwa [Bx_set] at h
theorem Bx_fz {μ : Mu} {b : Nat} {ds : List Int} {k : Nat} (h : b < μ.length) : fzAt (Bx μ b ds k) b = none := by
  unfold fzAt
  rw [Bx_get h]
  rfl
@[simp] theorem atI_0 {α : Type} {x : α} {r : List α} : atI (x :: r) 0 = some x := atI_nat (j := 0) rfl
@[simp] theorem atI_1 {α : Type} {x y : α} {r : List α} : atI (x :: y :: r) 1 = some y := atI_nat (j := 1) rfl
theorem atI_at {α : Type} {xs : List α} {j : Nat} (h : j < xs.length) : atI xs (j : Int) = some xs[j] := atI_nat (List.getElem?_eq_getElem h)
@[simp] theorem ixN_21 : ixN 2 1 = some 1 := rfl
theorem Bx_at0 {μ : Mu} {b : Nat} {ds : List Int} {k : Nat} (h : b < μ.length) : gIx (Bx μ b ds k) (.p b) (.d (.int 0)) = some (.d (.lst (ds.map D.int))) := by
  simp [gIx, gIx2, lstOf, Bx_get h, bx, ixT]
theorem Bx_at1 {μ : Mu} {b : Nat} {ds : List Int} {k : Nat} (h : b < μ.length) : gIx (Bx μ b ds k) (.p b) (.d (.int 1)) = some (.d (.int k)) := by
  simp [gIx, gIx2, lstOf, Bx_get h, bx, ixT]
theorem Bx_put {μ : Mu} {b : Nat} {ds : List Int} {k j : Nat} (h : b < μ.length) : setL (Bx μ b ds k) (.p b) (.d (.int 1)) (.d (.int j)) = some (Bx μ b ds j) := by
  simp [setL, lstC, Bx_get h, bx]
  exact Bx_set
theorem ints_at {μ : Mu} {ds : List Int} {k : Nat} (h : k < ds.length) : gIx μ (.d (.lst (ds.map D.int))) (.d (.int k)) = some (.d (.int ds[k])) := by
  have h' : k < ((ds.map D.int).map T.d).length := by simpa using h
  simp only [gIx, gIx2, lstOf, ixT, atI_at h', Option.map_some]
  simp
theorem draw_eq {μ : Mu} {b : Nat} {ds : List Int} {k : Nat} {m : Int} (h : b < μ.length) (hm : 0 < m) : F__law_draw [.p b, .d (.int m)] (Bx μ b ds k) = some (.ok (.d (.int (drw ds k m))) (Bx μ b ds (k + 1))) := by
  have g1 := Bx_fz (ds := ds) (k := k) h
  have g1' := Bx_fz (ds := ds) (k := k + 1) h
  have a0 := Bx_at0 (ds := ds) (k := k + 1) h
  have a1 := Bx_at1 (ds := ds) (k := k) h
  have p1 := Bx_put (ds := ds) (k := k) (j := k + 1) h
  rw [show (((k + 1 : Nat)) : Int) = (k : Int) + 1 from rfl] at p1
  by_cases hk : k < ds.length
  · have i1 := ints_at (μ := Bx μ b ds (k + 1)) hk
    have i2 : drw ds k m = ds[k] % m := by unfold drw; rw [List.getElem?_eq_getElem hk]
    simp [F__law_draw, fnB, b__law_draw, g1, g1', a0, a1, p1, i1, i2, sPut, eB, ofG, gLen, lenT, lstOf, gInt, hk, hm, Bx_fin]
  · have i2 : drw ds k m = 0 := by unfold drw; rw [List.getElem?_eq_none (by omega)]
    simp [F__law_draw, fnB, b__law_draw, g1, g1', a0, a1, p1, i2, sPut, eB, ofG, gLen, lenT, lstOf, gInt, hk, hm, Bx_fin]
end Fm
set_option Elab.async false
set_option linter.all false
set_option maxRecDepth 100000
namespace Fm
open PySem L2 PySem.Spec PyProof.Rows
theorem mb_ok {α β : Type} {f : M α} {g : α → M β} {μ μ' : Mu} {a : α} (h : f μ = some (.ok a μ')) : mbind f g μ = g a μ' := by
  unfold mbind
  rw [h]
@[simp] theorem scal_ii {i j : Int} : scal (.int i) (.int j) = true := rfl
@[simp] theorem scal_ss {i j : Str} : scal (.str i) (.str j) = true := rfl
@[simp] theorem scal_bb {i j : Bool} : scal (.bl i) (.bl j) = true := rfl
theorem mbind_some {α β : Type} {f : M α} {g : α → M β} {μ μ' : Mu} {c : β} (h : mbind f g μ = some (.ok c μ')) : ∃ a m, f μ = some (.ok a m) ∧ g a m = some (.ok c μ') := by
  unfold mbind at h
  cases hf : f μ with
  | none => rw [hf] at h; cases h
  | some q =>
    rw [hf] at h
    cases q with
    | ex => cases h
    | ok a m => exact ⟨a, m, rfl, h⟩
/-- a loop by an invariant of its environment and its store -/
theorem forL_ex {Inv : Rho → Mu → Prop} {g : GF} {b : SF} : ∀ {xs : List T} {ρ : Rho} {μ : Mu}, (∀ x ∈ xs, ∀ ρ μ, Inv ρ μ → ∃ ρ' μ', mbind (g x ρ) b μ = some (.ok (.nx, ρ') μ') ∧ Inv ρ' μ') → Inv ρ μ → ∃ ρ' μ', forL g b xs ρ μ = some (.ok (.nx, ρ') μ') ∧ Inv ρ' μ'
  | [], ρ, μ, _, h => ⟨ρ, μ, rfl, h⟩
  | x :: r, ρ, μ, hh, h => by
    obtain ⟨ρ1, μ1, e1, h1⟩ := hh x List.mem_cons_self ρ μ h
    obtain ⟨ρ2, μ2, e2, h2⟩ := forL_ex (xs := r) (fun y hy => hh y (List.mem_cons_of_mem _ hy)) h1
    refine ⟨ρ2, μ2, ?_, h2⟩
    unfold forL
    obtain ⟨ρ', m, e3, e4⟩ := mbind_some e1
    refine (mb_ok e3).trans ((mb_ok e4).trans ?_)
    exact e2
/-- an item of a list of texts -/
theorem strs_at {μ : Mu} {ss : List Str} {i : Int} (h0 : 0 ≤ i) (h1 : i < ss.length) : ∃ s ∈ ss, gIx μ (.d (.lst (ss.map D.str))) (.d (.int i)) = some (.d (.str s)) := by
  obtain ⟨j, rfl⟩ : ∃ j : Nat, i = j := ⟨i.toNat, by omega⟩
  have hj : j < ss.length := by omega
  have h' : j < ((ss.map D.str).map T.d).length := by simpa using hj
  refine ⟨ss[j], List.getElem_mem hj, ?_⟩
  simp only [gIx, gIx2, lstOf, ixT, atI_at h', Option.map_some]
  simp
/-- a sign of a text -/
theorem sign_at {μ : Mu} {z : Str} {i : Int} (h0 : 0 ≤ i) (h1 : i < z.length) (hl : z.length ≤ SL) : ∃ c, z.cps.toList[i.toNat]? = some c ∧ gIx μ (.d (.str z)) (.d (.int i)) = some (.d (.str ⟨#[c]⟩)) := by
  obtain ⟨j, rfl⟩ : ∃ j : Nat, i = j := ⟨i.toNat, by omega⟩
  have hj : j < z.cps.toList.length := by rw [len_toList]; omega
  refine ⟨z.cps.toList[j], List.getElem?_eq_getElem hj, ?_⟩
  show (if z.length ≤ SL then _ else _) = _
  rw [if_pos hl]
  show (atI z.cps.toList ((j : Nat) : Int)).map _ = _
  rw [atI_at hj]
  simp
def kNames : List Str := ["a", "b", "c", "ab", "x1", "zz", "b9", "abcdefgh"]
theorem name_ex {μ : Mu} {b : Nat} {ds : List Int} {k : Nat} (h : b < μ.length) : ∃ s ∈ kNames, F__law_name [.p b] (Bx μ b ds k) = some (.ok (.d (.str s)) (Bx μ b ds (k + 1))) := by
  have e := draw_eq (ds := ds) (k := k) (m := 8) h (by omega)
  have l := drw_lo (ds := ds) (k := k) (m := 8) (by omega)
  have u := drw_hi (ds := ds) (k := k) (m := 8) (by omega)
  obtain ⟨s, hs, q⟩ := strs_at (μ := Bx μ b ds (k + 1)) (ss := kNames) l u
  refine ⟨s, hs, ?_⟩
  have q : gIx (Bx μ b ds (k + 1)) (.d (.lst [.str "a", .str "b", .str "c", .str "ab", .str "x1", .str "zz", .str "b9", .str "abcdefgh"])) (.d (.int (drw ds k 8))) = some (.d (.str s)) := q
  have g1 := Bx_fz (ds := ds) (k := k) h
  simp [F__law_name, fnB, b__law_name, g1, e, q, eFz, cLst, fzC, Cell.data, dTs, SL, Bx_fin]
/-- a word's signs -/
def Wd3 (s : Str) : Prop := ∀ c ∈ s.cps.toList, c = 97 ∨ c = 98 ∨ c = 122
theorem word_ex {μ : Mu} {b : Nat} {ds : List Int} {k : Nat} (h : b < μ.length) : ∃ s j, s.length ≤ 3 ∧ Wd3 s ∧ F__law_word [.p b] (Bx μ b ds k) = some (.ok (.d (.str s)) (Bx μ b ds j)) := by
  have e := draw_eq (ds := ds) (k := k) (m := 4) h (by omega)
  have l := drw_lo (ds := ds) (k := k) (m := 4) (by omega)
  have u := drw_hi (ds := ds) (k := k) (m := 4) (by omega)
  have hx : ∃ n : Nat, n ≤ 3 ∧ rng1 [.d (.int (drw ds k 4))] = some (rngL 0 n) := by
    refine ⟨(drw ds k 4).toNat, by omega, ?_⟩
    show (if _ then _ else _) = _
    rw [if_pos (by omega)]
  obtain ⟨n, hn, hr⟩ := hx
  have key : ∀ (xs : List T) (s : Str) (v : Option T) (k : Nat), (s.length + xs.length ≤ 3) → Wd3 s → ∃ s' v' j, s'.length ≤ 3 ∧ Wd3 s' ∧ forL (gN 2) (sAsg (eOp gAdd (eVar 1) (eOp gIx (eC (.str "abz")) (eDef F__law_draw (aCons (eVar 0) (aCons (eC (.int 3)) aNil))))) (gN 1)) xs [some (.p b), some (.d (.str s)), v] (Bx μ b ds k) = some (.ok (.nx, [some (.p b), some (.d (.str s')), v']) (Bx μ b ds j)) := by
    intro xs
    induction xs with
    | nil => exact fun s v k hs hw => ⟨s, v, k, by simpa using hs, hw, rfl⟩
    | cons x r ih =>
      intro s v k hs hw
      have e := draw_eq (ds := ds) (k := k) (m := 3) h (by omega)
      have l := drw_lo (ds := ds) (k := k) (m := 3) (by omega)
      have u := drw_hi (ds := ds) (k := k) (m := 3) (by omega)
      obtain ⟨c, hc, q⟩ := sign_at (μ := Bx μ b ds (k + 1)) (z := "abz") l u (by decide +kernel)
      have hc' : c = 97 ∨ c = 98 ∨ c = 122 := by
        have := List.mem_of_getElem? hc
        rw [show ("abz" : Str).cps.toList = [97, 98, 122] from by decide +kernel] at this
        simpa using this
      have hs' : s.length + 1 ≤ 3 := by simp at hs; omega
      obtain ⟨s', v', j, h1, h2, h3⟩ := ih (s ++ ⟨#[c]⟩) (some x) (k + 1) (by rw [Str.length_append]; simp [Str.length] at hs ⊢; omega) (by
        intro d hd
        rw [cps_toList_append] at hd
        rcases List.mem_append.mp hd with q | q
        · exact hw d q
        · simp at q; rw [q]; exact hc')
      refine ⟨s', v', j, h1, h2, ?_⟩
      have hl : s.length + (Str.length ⟨#[c]⟩) ≤ 16777216 := by simp [Str.length] at hs' ⊢; omega
      have g1 := Bx_fz (ds := ds) (k := k) h
      simp only [forL, gN, mret, mbind, List.set_cons_succ, List.set_cons_zero, sAsg, eOp, eVar, mof, slotT, List.getElem?_cons_succ, List.getElem?_cons_zero, eC, eDef, aCons, aNil, e, stp, rd, g1, q, gAdd, g2or, gI, gSS, hCatS]
      rw [if_pos hl]
      exact h3
  obtain ⟨s, v, j, h1, h2, h3⟩ := key (rngL 0 n) "" none (k + 1) (by rw [rngL_len]; exact (Nat.zero_add n).symm ▸ hn) (by intro c hc; simp [show ("" : Str).cps.toList = [] from by decide +kernel] at hc)
  refine ⟨s, j, h1, h2, ?_⟩
  have g1 := Bx_fz (ds := ds) (k := k) h
  simp [F__law_word, fnB, b__law_word, g1, e, sFor, iRg, hr, h3, Bx_fin]
def numOk (i : Int) : Prop := -1000000 ≤ i ∧ i ≤ 1000000
theorem number_ex {μ : Mu} {b : Nat} {ds : List Int} {k : Nat} (h : b < μ.length) : ∃ i j, numOk i ∧ F__law_number [.p b] (Bx μ b ds k) = some (.ok (.d (.int i)) (Bx μ b ds j)) := by
  have D := fun (k : Nat) (m : Int) (hm : 0 < m) => draw_eq (ds := ds) (k := k) (m := m) h hm
  have L := fun (k : Nat) (m : Int) (hm : 0 < m) => drw_lo (ds := ds) (k := k) (m := m) hm
  have U := fun (k : Nat) (m : Int) (hm : 0 < m) => drw_hi (ds := ds) (k := k) (m := m) hm
  have g0 := Bx_fz (ds := ds) (k := k) h
  have g1 := Bx_fz (ds := ds) (k := k + 1) h
  have g2 := Bx_fz (ds := ds) (k := k + 1 + 1) h
  have e0 := D k 4 (by omega)
  by_cases c0 : drw ds k 4 = 0
  · have e1 := D (k + 1) 3 (by omega)
    have := L (k + 1) 3 (by omega)
    have := U (k + 1) 3 (by omega)
    refine ⟨drw ds (k + 1) 3 - 1, k + 1 + 1, by unfold numOk; omega, ?_⟩
    simp [F__law_number, fnB, b__law_number, g0, g1, g2, e0, e1, c0, Bx_fin]
  · by_cases c1 : drw ds k 4 = 1
    · have e1 := D (k + 1) 40 (by omega)
      have := L (k + 1) 40 (by omega)
      have := U (k + 1) 40 (by omega)
      refine ⟨drw ds (k + 1) 40 - 20, k + 1 + 1, by unfold numOk; omega, ?_⟩
      simp [F__law_number, fnB, b__law_number, g0, g1, g2, e0, e1, c1, Bx_fin]
    · by_cases c2 : drw ds k 4 = 2
      · have e1 := D (k + 1) 1000 (by omega)
        have e2 := D (k + 1 + 1) 1000 (by omega)
        have l1 := L (k + 1) 1000 (by omega)
        have u1 := U (k + 1) 1000 (by omega)
        have l2 := L (k + 1 + 1) 1000 (by omega)
        have u2 := U (k + 1 + 1) 1000 (by omega)
        refine ⟨drw ds (k + 1) 1000 * 1000 + drw ds (k + 1 + 1) 1000, k + 1 + 1 + 1, by unfold numOk; omega, ?_⟩
        have cm : cMul (drw ds (k + 1) 1000) 1000 = true := by unfold cMul; simp
        simp [F__law_number, fnB, b__law_number, g0, g1, g2, e0, e1, e2, c2, cm, Bx_fin]
      · have e1 := D (k + 1) 2 (by omega)
        have l1 := L (k + 1) 2 (by omega)
        have u1 := U (k + 1) 2 (by omega)
        refine ⟨1000000 - 2000000 * drw ds (k + 1) 2, k + 1 + 1, by unfold numOk; omega, ?_⟩
        have cm : cMul 2000000 (drw ds (k + 1) 2) = true := by unfold cMul; simp
        simp [F__law_number, fnB, b__law_number, g0, g1, g2, e0, e1, c0, c1, c2, cm, Bx_fin]
end Fm
set_option Elab.async false
set_option linter.all false
set_option maxRecDepth 100000
namespace Fm
open PySem L2 PySem.Spec PyProof.Rows
/-! ### steps -/
section
variable {f g : SF} {c : TF} {e : EF} {ρ ρ' : Rho} {μ μ' : Mu} {x : D} {y : T} {r : Option (Rs (Fl × Rho))}
theorem fnB_ret {N : Nat} {xs : List T} (h : f (xs.map some ++ List.replicate (N - xs.length) none) μ = some (.ok (.ret (.d x), ρ) μ)) : fnB N f xs μ = some (.ok (.d x) μ) := by
  unfold fnB
  rw [h]
  simp
theorem fnB_own {N : Nat} {xs : List T} {z : Mu} (h : f (xs.map some ++ List.replicate (N - xs.length) none) μ = some (.ok (.ret (.d x), ρ) (μ ++ z))) : fnB N f xs μ = some (.ok (.d x) μ) := by
  unfold fnB
  rw [h]
  show some (Rs.ok _ (finMu _ _ _)) = _
  rw [finMu_app]
theorem fnB_to {N : Nat} {xs : List T} (h : f (xs.map some ++ List.replicate (N - xs.length) none) μ = some (.ok (.ret (.d x), ρ) μ')) (hf : finMu μ μ' (.d x) = μ') : fnB N f xs μ = some (.ok (.d x) μ') := by
  unfold fnB
  rw [h]
  show some (Rs.ok _ (finMu _ _ _)) = _
  rw [hf]
theorem ret_eq (h : e ρ μ = some (.ok (.d x) μ')) : sRet e ρ μ = some (.ok (.ret (.d x), ρ) μ') := by simp [h]
theorem seq_nx (h : f ρ μ = some (.ok (.nx, ρ') μ')) (h2 : g ρ' μ' = r) : sSeq f g ρ μ = r := by
  show mbind (f ρ) _ μ = _
  rw [mb_ok h]
  exact h2
theorem seq_ret (h : f ρ μ = some (.ok (.ret y, ρ') μ')) : sSeq f g ρ μ = some (.ok (.ret y, ρ') μ') := by
  show mbind (f ρ) _ μ = _
  rw [mb_ok h]
  rfl
theorem if_t (h : c ρ μ = some (.ok true μ')) (h2 : f ρ μ' = r) : sIf c f g ρ μ = r := by
  show mbind (c ρ) _ μ = _
  rw [mb_ok h]
  exact h2
theorem if_f (h : c ρ μ = some (.ok false μ')) (h2 : g ρ μ' = r) : sIf c f g ρ μ = r := by
  show mbind (c ρ) _ μ = _
  rw [mb_ok h]
  exact h2
theorem seq_pass (h : c ρ μ = some (.ok false μ)) (h2 : g ρ μ = r) : sSeq (sIf c f sNx) g ρ μ = r := seq_nx (if_f h rfl) h2
theorem seq_hit (h : c ρ μ = some (.ok true μ)) (h2 : f ρ μ = some (.ok (.ret y, ρ') μ')) : sSeq (sIf c f sNx) g ρ μ = some (.ok (.ret y, ρ') μ') := seq_ret (if_t h h2)
theorem seq_asg {i : Nat} (h : e ρ μ = some (.ok y μ')) (h2 : g (ρ.set i (some y)) μ' = r) : sSeq (sAsg e (gN i)) g ρ μ = r := seq_nx (by simp [h]) h2
theorem nx_eq : sNx ρ μ = some (.ok (.nx, ρ) μ) := rfl
theorem asg_eq {i : Nat} (h : e ρ μ = some (.ok y μ')) : sAsg e (gN i) ρ μ = some (.ok (.nx, ρ.set i (some y)) μ') := by simp [h]
theorem for_eq {it : AF} {gf : GF} {xs : List T} (h : it ρ μ = some (.ok xs μ')) (h2 : forL gf f xs ρ μ' = r) : sFor it gf f ρ μ = r := by
  show mbind (it ρ) _ μ = _
  rw [mb_ok h]
  exact h2
theorem compL_gen {α : Type} {gf : GF} {el : EF} {h f : α → T} : ∀ {l : List α} {acc : List T}, (∀ a ∈ l, ∃ ρ', gf (h a) ρ μ = some (.ok ρ' μ) ∧ el ρ' μ = some (.ok (f a) μ)) → compL gf bTrue el ρ (l.map h) acc μ = some (.ok (.lst (acc ++ l.map f)) μ)
  | [], acc, _ => by simp [compL]
  | x :: r, acc, hh => by
    obtain ⟨ρ', h1, h1'⟩ := hh x List.mem_cons_self
    have h2 := compL_gen (gf := gf) (el := el) (h := h) (f := f) (l := r) (acc := acc ++ [f x]) fun y hy => hh y (List.mem_cons_of_mem _ hy)
    simp [compL, noex, bTrue, h1, h1', h2]
theorem cmp_eq {α : Type} {vs : List Nat} {it : AF} {gf : GF} {el : EF} (l : List α) (h : α → T) (f : α → D) (hit : it ρ μ = some (.ok (l.map h) μ)) (hl : l.length ≤ SL) (hs : ∀ a ∈ l, ∃ ρ', gf (h a) (wipeR ρ vs) μ = some (.ok ρ' μ) ∧ el ρ' μ = some (.ok (.d (f a)) μ)) :
    eFz (cComp vs it gf bTrue el) ρ μ = some (.ok (.d (.lst (l.map f))) μ) := by
  have hc := compL_gen (ρ := wipeR ρ vs) (μ := μ) (gf := gf) (el := el) (h := h) (f := fun a => T.d (f a)) (l := l) (acc := []) hs
  have hl' : (l.map h).length ≤ SL := by rw [List.length_map]; exact hl
  have hm : cComp vs it gf bTrue el ρ μ = some (.ok (.lst ([] ++ l.map fun a => T.d (f a))) μ) := by
    show mbind (it ρ) _ μ = _
    rw [mb_ok hit]
    show (if _ then _ else _) = _
    rw [if_pos hl', hc]
  show mbind (cComp vs it gf bTrue el ρ) _ μ = _
  rw [mb_ok hm]
  have := fz_of (μ := μ) (l.map f)
  rw [List.map_map] at this
  exact this
end
/-! ### names -/
def alpha : Str := "abcdefghijklmnopqrstuvwxyz"
def alnum : Str := "abcdefghijklmnopqrstuvwxyz0123456789"
def headIn (s a : Str) : Bool := match s.cps.toList with
  | c :: _ => isIn c a
  | [] => false
def isNm (s : Str) : Bool := decide (1 ≤ s.length ∧ s.length ≤ 8) && (headIn s alpha && only s alnum)
theorem is_name_eq (s : Str) (μ : Mu) (h : s.length ≤ SL) : F_is_name [.d (.str s)] μ = some (.ok (.d (.bl (isNm s))) μ) := by
  have ho := has_only_eq s alnum μ h
  have ha : ("abcdefghijklmnopqrstuvwxyz" : Str) ++ ("0123456789" : Str) = alnum := by decide +kernel
  have hl : Str.length "abcdefghijklmnopqrstuvwxyz" + Str.length "0123456789" ≤ 16777216 := by decide +kernel
  by_cases h0 : 1 ≤ s.length ∧ s.length ≤ 8
  · obtain ⟨c, hc, q⟩ := sign_at (μ := μ) (z := s) (i := 0) (by omega) (by omega) h
    have h1 : (1 : Int) ≤ (s.length : Nat) := by omega
    have h2 : ((s.length : Nat) : Int) ≤ 8 := by omega
    have hh : headIn s alpha = isIn c alpha := by
      unfold headIn
      cases hq : s.cps.toList with
      | nil => rw [hq] at hc; simp at hc
      | cons d r => rw [hq] at hc; simp at hc; rw [hc]
    have hi : isNm s = (isIn c alpha && only s alnum) := by
      unfold isNm
      rw [decide_eq_true h0, hh]
      rfl
    refine fnB_ret (seq_pass ?_ (ret_eq ?_))
    · simp [eChain, eB, ofG, gLen, lenT, h, h1, h2]
    · have q' : isIn c (Str.ofString "abcdefghijklmnopqrstuvwxyz") = isIn c alpha := rfl
      cases hm : isIn c alpha
      · simp [q, in_1, q', hm, hi]
      · simp [q, in_1, q', hm, hl, ha, ho, hi]
  · have hi : isNm s = false := by
      unfold isNm
      rw [decide_eq_false h0]
      rfl
    rw [hi]
    refine fnB_ret (seq_hit ?_ (ret_eq ?_))
    · by_cases h1 : (1 : Int) ≤ (s.length : Nat)
      · have h2 : ¬ ((s.length : Nat) : Int) ≤ 8 := by omega
        simp [eChain, eB, ofG, gLen, lenT, h, h1, h2]
      · simp [eChain, eB, ofG, gLen, lenT, h, h1]
    · simp
end Fm
set_option Elab.async false
set_option linter.all false
set_option maxRecDepth 100000
namespace Fm
open PySem L2 PySem.Spec PyProof.Rows
/-! ### the bounds of a value's own -/
def Vl.own : Vl → Bool
  | .int i => decide (-1000000 ≤ i ∧ i ≤ 1000000)
  | .str s => decide (s.length ≤ 20) && only s alpha
  | .lst _ => true
  | .rc kvs => decide (kvs.length ≤ 8) && kvs.all fun p => isNm p.1
  | .tag n _ => isNm n
theorem le_M {n : Nat} (h : n ≤ 1000) : n ≤ 16777216 := by omega
@[simp] theorem len_dct {μ : Mu} {kvs : List (Key × D)} : gLen μ [.d (.dct kvs)] = some (.d (.int kvs.length)) := by simp [gLen, lenT, lstOf, tupOf, dctOf]
@[simp] theorem len_lst {μ : Mu} {xs : List D} : gLen μ [.d (.lst xs)] = some (.d (.int xs.length)) := by simp [gLen, lenT, lstOf]
@[simp] theorem len_kl {μ : Mu} {xs : List Int} : gLen μ [.d (.kl xs)] = some (.d (.int xs.length)) := by simp [gLen, lenT, lstOf]
@[simp] theorem len_tup {μ : Mu} {xs : List D} : gLen μ [.d (.tup xs)] = some (.d (.int xs.length)) := by simp [gLen, lenT, lstOf, tupOf]
theorem len_str {μ : Mu} {s : Str} (h : s.length ≤ SL) : gLen μ [.d (.str s)] = some (.d (.int s.length)) := by simp [gLen, lenT, h]
theorem keysD_eq (kvs : List (Str × Vl)) : keysD (.d (.dct (Vl.Dk kvs))) = some (kvs.map fun p => (Sum.inr p.1 : Key)) := by
  simp [keysD, Vl.Dk_map]
theorem cmpK_eq {i : Nat} {vs : List Nat} {gf : GF} {el : EF} {ρ : Rho} {μ : Mu} {x : T} {ks : List Key} (f : Key → D) (hx : slotT ρ i = some x) (hk : keysD (rd μ x) = some ks) (hl : ks.length ≤ SL) (hs : ∀ a ∈ ks, ∃ ρ', gf (keyT a) (wipeR (flatR ρ) vs) [] = some (.ok ρ' []) ∧ el ρ' [] = some (.ok (.d (f a)) [])) :
    eFz (cCompK i vs gf bTrue el) ρ μ = some (.ok (.d (.lst (ks.map f))) μ) := by
  have hc := compL_gen (ρ := wipeR (flatR ρ) vs) (μ := []) (gf := gf) (el := el) (h := keyT) (f := fun a => T.d (f a)) (l := ks) (acc := []) hs
  have hd : dTs [] (ks.map fun a => T.d (f a)) = some (ks.map f) := by
    have := dTs_d [] (ks.map f)
    rwa [List.map_map] at this
  have hm : cCompK i vs gf bTrue el ρ μ = some (.ok (.lst ((ks.map f).map T.d)) μ) := by
    unfold cCompK
    rw [hx]
    simp only [Option.bind_some, hk]
    rw [if_pos hl, hc]
    simp [hd]
  show mbind (cCompK i vs gf bTrue el ρ) _ μ = _
  rw [mb_ok hm]
  exact fz_of _
theorem keeps_eq {v : Vl} (h : v.Wf) (μ : Mu) : F__keeps_own_bounds [.d v.D] μ = some (.ok (.d (.bl v.own)) μ) := by
  cases v with
  | int i =>
    refine fnB_ret (seq_pass ?_ (seq_hit ?_ (ret_eq ?_)))
    · simp [Vl.D]
    · simp [Vl.D]
    · by_cases h1 : -1000000 ≤ i
      · simp [Vl.D, Vl.own, eChain, eNeg, negT, h1]
      · simp [Vl.D, Vl.own, eChain, eNeg, negT, h1]
  | str s =>
    have hl : s.length ≤ 16777216 := le_M h
    have ho := has_only_eq s alpha μ hl
    refine fnB_ret (seq_pass ?_ (seq_pass ?_ (seq_hit ?_ (ret_eq ?_))))
    · simp [Vl.D]
    · simp [Vl.D]
    · simp [Vl.D]
    · have ho' : F__has_only [T.d (.str s), T.d (.str (Str.ofString "abcdefghijklmnopqrstuvwxyz"))] μ = some (Rs.ok (T.d (D.bl (only s alpha))) μ) := ho
      by_cases h1 : s.length ≤ 20
      · have h2 : ((s.length : Nat) : Int) ≤ 20 := by omega
        simp [Vl.D, Vl.own, eB, ofG, len_str, hl, ho', h1, h2]
      · have h2 : ¬ ((s.length : Nat) : Int) ≤ 20 := by omega
        simp [Vl.D, Vl.own, eB, ofG, len_str, hl, h1, h2]
  | lst xs =>
    refine fnB_ret (seq_pass ?_ (seq_pass ?_ (seq_pass ?_ (seq_pass ?_ (seq_pass ?_ (ret_eq ?_)))))) <;> simp [Vl.D, Vl.own]
  | rc kvs =>
    have hlk : kvs.length < 64 := h.1
    have hl : (Vl.Dk kvs).length = kvs.length := by rw [Vl.Dk_map, List.length_map]
    refine fnB_ret (seq_pass ?_ (seq_pass ?_ (seq_pass ?_ (seq_hit ?_ (ret_eq ?_)))))
    · simp [Vl.D]
    · simp [Vl.D]
    · simp [Vl.D]
    · simp [Vl.D]
    · have hn : ∀ p ∈ kvs, p.1.length ≤ 16777216 := fun p hp => le_M (Vl.Wfk_all.mp h.2.2 p hp).1
      have hc : eFz (cCompK 0 [1] (gN 1) bTrue (eDef F_is_name (aCons (eVar 1) aNil))) [some (.d (.dct (Vl.Dk kvs))), none] μ = some (.ok (.d (.lst (kvs.map fun p => D.bl (isNm p.1)))) μ) := by
        have := cmpK_eq (i := 0) (vs := [1]) (gf := gN 1) (el := eDef F_is_name (aCons (eVar 1) aNil)) (ρ := [some (.d (.dct (Vl.Dk kvs))), none]) (μ := μ) (fun k => match k with | .inr s => D.bl (isNm s) | .inl _ => D.bl false) rfl (keysD_eq kvs) (by rw [List.length_map]; show _ ≤ 16777216; omega) (by
          intro a ha
          obtain ⟨p, hp, e⟩ := List.mem_map.mp ha
          subst e
          refine ⟨_, rfl, ?_⟩
          have := is_name_eq p.1 [] (hn p hp)
          simp [wipeR, keyT, this, flatR, flatO])
        rw [List.map_map] at this
        exact this
      have ha := all_of (μ := μ) (p := fun p : Str × Vl => isNm p.1) (l := kvs)
      by_cases h1 : kvs.length ≤ 8
      · have h2 : ((kvs.length : Nat) : Int) ≤ 8 := by omega
        simp [Vl.D, Vl.own, eB, ofG, len_str, hl, h1, h2]
        simpa [hc, ofG] using ha
      · have h2 : ¬ ((kvs.length : Nat) : Int) ≤ 8 := by omega
        simp [Vl.D, Vl.own, eB, ofG, len_str, hl, h1, h2]
  | tag n w =>
    have hn := is_name_eq n μ (le_M h.1)
    refine fnB_ret (seq_pass ?_ (seq_pass ?_ (seq_pass ?_ (seq_pass ?_ (seq_hit ?_ (ret_eq ?_))))))
    · simp [Vl.D]
    · simp [Vl.D]
    · simp [Vl.D]
    · simp [Vl.D]
    · simp [Vl.D]
    · simp [Vl.D, Vl.own, eB, ofG, gIx, gIx2, lstOf, tupOf, ixT, hn]
end Fm
set_option Elab.async false
set_option linter.all false
set_option maxRecDepth 100000
namespace Fm
open PySem L2 PySem.Spec PyProof.Rows
/-! ### parts -/
theorem keysOf_dk (kvs : List (Str × Vl)) (μ : Mu) : gSorted μ [.d (.dct (Vl.Dk kvs))] = sortT (kvs.map (·.1)) := by
  simp [gSorted, lstOf, tupOf, dctOf, keysOf_eq]
theorem sorted_eq {kvs : List (Str × Vl)} (hl : kvs.length < 64) {e : EF} {ρ : Rho} {μ : Mu} (he : e ρ μ = some (.ok (.d (.dct (Vl.Dk kvs))) μ)) : eFz (cB gSorted (aCons e aNil)) ρ μ = some (.ok (.d (.lst ((sortS (kvs.map (·.1))).map D.str))) μ) := by
  have hk : (kvs.map (·.1)).length < 64 := by rw [List.length_map]; exact hl
  have h1 : cB gSorted (aCons e aNil) ρ μ = some (.ok (.lst ((sortS (kvs.map (·.1))).map fun s => .d (.str s))) μ) := by
    simp [cB, ofG, he, keysOf_dk, sortT, hl]
  show mbind (cB gSorted (aCons e aNil) ρ) _ μ = _
  rw [mb_ok h1]
  have := fz_of (μ := μ) ((sortS (kvs.map (·.1))).map D.str)
  rw [List.map_map] at this
  exact this
theorem sortS_len (ks : List Str) : (sortS ks).length = ks.length := (sortS_perm ks).length_eq
theorem sort_mem {kvs : List (Str × Vl)} {n : Str} (h : n ∈ sortS (kvs.map (·.1))) : n ∈ kvs.map (·.1) := (sortS_perm _).mem_iff.mp h
theorem dget_eq {kvs : List (Str × Vl)} {n : Str} (μ : Mu) (h : n ∈ kvs.map (·.1)) : gIx μ (.d (.dct (Vl.Dk kvs))) (.d (.str n)) = some (.d (fget kvs n).D) := by
  have := valT_eq kvs n h
  simp [gIx, gIx2, lstOf, tupOf, dctOf, keyOf, this]
def Vl.named : Vl → List (Str × Vl)
  | .lst xs => xs.map fun v => ("", v)
  | .rc kvs => fsort kvs
  | .tag n v => [(n, v)]
  | _ => []
theorem named_parts (v : Vl) : v.named.map (·.2) = v.parts := by
  cases v <;> simp [Vl.named, Vl.parts, List.map_map, Function.comp_def]
theorem lstOf_map {α : Type} {μ : Mu} {f : α → D} {l : List α} : lstOf μ (.d (.lst (l.map f))) = some (l.map fun a => T.d (f a)) := by simp [lstOf]
theorem iLst_eq {α : Type} {e : EF} {ρ : Rho} {μ : Mu} {f : α → D} (l : List α) (he : e ρ μ = some (.ok (.d (.lst (l.map f))) μ)) : iLst e ρ μ = some (.ok (l.map fun a => T.d (f a)) μ) := by
  simp [iLst, he, lstD]
def pairD (p : Str × Vl) : D := .tup [.str p.1, p.2.D]
theorem fields_eq {kvs : List (Str × Vl)} (hl : kvs.length < 64) (μ : Mu) : F_sorted_fields [.d (.dct (Vl.Dk kvs))] μ = some (.ok (.d (.lst ((fsort kvs).map pairD))) μ) := by
  unfold fsort
  rw [List.map_map]
  refine fnB_ret (ret_eq (cmp_eq (sortS (kvs.map (·.1))) (fun s => T.d (.str s)) (pairD ∘ fun n => (n, fget kvs n)) (iLst_eq _ (sorted_eq hl ?_)) ?_ ?_))
  · simp
  · rw [sortS_len, List.length_map]; show _ ≤ 16777216; omega
  · intro n hn
    refine ⟨_, rfl, ?_⟩
    simp [wipeR, eTup, dTs, SL, dget_eq μ (sort_mem hn), pairD]
theorem len_ds (xs : List Vl) : (Vl.Ds xs).length = xs.length := by rw [Vl.Ds_map, List.length_map]
theorem iLst_ds {e : EF} {ρ : Rho} {μ : Mu} {xs : List Vl} (he : e ρ μ = some (.ok (.d (.lst (Vl.Ds xs))) μ)) : iLst e ρ μ = some (.ok (xs.map fun a => T.d a.D) μ) := iLst_eq (f := Vl.D) xs (by rw [he, Vl.Ds_map])
theorem named_eq {v : Vl} (h : v.Wf) (μ : Mu) : F__named_parts [.d v.D] μ = some (.ok (.d (.lst (v.named.map pairD))) μ) := by
  have hk := kind_eq v μ
  have ha : eDef F_kind_of (aCons (eVar 0) aNil) [some (.d v.D), none, none] μ = some (.ok (.d (.int v.kind)) μ) := by simp [hk]
  cases v with
  | int i => refine fnB_ret (seq_asg ha (seq_pass ?_ (seq_pass ?_ (seq_pass ?_ (ret_eq ?_))))) <;> simp [Vl.kind, Vl.named, eFz, cLst, fzC, Cell.data, dTs]
  | str i => refine fnB_ret (seq_asg ha (seq_pass ?_ (seq_pass ?_ (seq_pass ?_ (ret_eq ?_))))) <;> simp [Vl.kind, Vl.named, eFz, cLst, fzC, Cell.data, dTs]
  | lst xs =>
    have e : (Vl.named (.lst xs)).map pairD = xs.map fun v => pairD ("", v) := by simp [Vl.named, List.map_map, Function.comp_def]
    rw [e]
    refine fnB_ret (seq_asg ha (seq_hit ?_ (ret_eq (cmp_eq xs (fun v => T.d v.D) (fun v => pairD ("", v)) (iLst_ds ?_) ?_ ?_))))
    · simp [Vl.kind]
    · simp [Vl.D]
    · exact le_M h.1
    · exact fun v hv => ⟨_, rfl, by simp [wipeR, eTup, dTs, SL, pairD]⟩
  | rc kvs =>
    refine fnB_ret (seq_asg ha (seq_pass ?_ (seq_hit ?_ (ret_eq ?_))))
    · simp [Vl.kind]
    · simp [Vl.kind]
    · simp [Vl.D, Vl.named, fields_eq h.1]
  | tag n w =>
    refine fnB_ret (seq_asg ha (seq_pass ?_ (seq_pass ?_ (seq_hit ?_ (ret_eq ?_)))))
    · simp [Vl.kind]
    · simp [Vl.kind]
    · simp [Vl.kind]
    · simp [Vl.D, Vl.named, pairD, eFz, cLst, fzC, Cell.data, dTs, SL]
theorem named_len {v : Vl} (h : v.Wf) : v.named.length ≤ 1000 := by
  cases v with
  | lst xs => simpa [Vl.named] using h.1
  | rc kvs =>
    have := h.1
    simp only [Vl.named, fsort, List.length_map, sortS_len]
    omega
  | _ => simp [Vl.named]
theorem parts_len {v : Vl} (h : v.Wf) : v.parts.length ≤ 1000 := by
  rw [← named_parts, List.length_map]
  exact named_len h
theorem parts_eq {v : Vl} (h : v.Wf) (μ : Mu) : F_parts_of [.d v.D] μ = some (.ok (.d (.lst (v.parts.map Vl.D))) μ) := by
  rw [← named_parts, List.map_map]
  refine fnB_ret (ret_eq (cmp_eq v.named (fun p => T.d (pairD p)) (Vl.D ∘ fun p => p.2) (iLst_eq _ ?_) ?_ ?_))
  · simp [named_eq h]
  · exact le_M (named_len h)
  · intro p hp
    exact ⟨_, rfl, by simp [wipeR]⟩
def Vl.own1 : Vl → Nat
  | .str s => 1 + s.length
  | _ => 1
theorem own_size_eq {v : Vl} (h : v.Wf) (μ : Mu) : F__own_size [.d v.D] μ = some (.ok (.d (.int v.own1)) μ) := by
  cases v with
  | str s =>
    have h' : s.length ≤ 1000 := h
    have hl : s.length ≤ 16777216 := le_M h'
    refine fnB_ret (ret_eq ?_)
    simp [Vl.D, Vl.own1, eB, ofG, len_str, hl]
  | _ => exact fnB_ret (ret_eq (by simp [Vl.D, Vl.own1]))
theorem has_depth_eq (v : Vl) (μ : Mu) : F__has_depth [.d v.D] μ = some (.ok (.d (.bl (decide (2 ≤ v.kind)))) μ) := fnB_ret (ret_eq (by simp [kind_eq]))
end Fm
set_option Elab.async false
set_option linter.all false
set_option maxRecDepth 100000
namespace Fm
open PySem L2 PySem.Spec PyProof.Rows
/-! ### what a value is -/
mutual
/-- every part keeps its bounds; a value at depth 20 holds none that could hold others -/
def Vl.okd : Nat → Vl → Bool
  | d, .lst xs => !decide (d = 20) && Vl.okds (d + 1) xs
  | d, .rc kvs => (Vl.rc kvs).own && !decide (d = 20) && Vl.okdk (d + 1) kvs
  | d, .tag n v => isNm n && !decide (d = 20) && v.okd (d + 1)
  | _, .int i => (Vl.int i).own
  | _, .str s => (Vl.str s).own
def Vl.okds : Nat → List Vl → Bool
  | _, [] => true
  | d, v :: r => v.okd d && Vl.okds d r
def Vl.okdk : Nat → List (Str × Vl) → Bool
  | _, [] => true
  | d, (_, v) :: r => v.okd d && Vl.okdk d r
end
theorem okds_all (d : Nat) : ∀ xs : List Vl, Vl.okds d xs = xs.all fun v => v.okd d
  | [] => rfl
  | v :: r => by rw [Vl.okds, okds_all d r] <;> rfl
theorem okdk_all (d : Nat) : ∀ xs : List (Str × Vl), Vl.okdk d xs = xs.all fun p => p.2.okd d
  | [] => rfl
  | (n, v) :: r => by rw [Vl.okdk, okdk_all d r] <;> rfl
theorem all_perm {α : Type} {p : α → Bool} {l m : List α} (h : l.Perm m) : l.all p = m.all p := by
  rw [Bool.eq_iff_iff, List.all_eq_true, List.all_eq_true]
  exact ⟨fun q x hx => q x (h.mem_iff.mpr hx), fun q x hx => q x (h.mem_iff.mp hx)⟩
theorem okd_eq {v : Vl} (h : v.Wf) (d : Nat) : v.okd d = (v.own && !(decide (2 ≤ v.kind) && decide (d = 20)) && v.parts.all fun p => p.okd (d + 1)) := by
  cases v with
  | int i => simp [Vl.okd, Vl.parts, Vl.kind]
  | str i => simp [Vl.okd, Vl.parts, Vl.kind]
  | lst xs => simp [Vl.okd, Vl.parts, Vl.kind, okds_all, Vl.own]
  | rc kvs =>
    have e : (Vl.rc kvs).parts.all (fun p => p.okd (d + 1)) = kvs.all fun p => p.2.okd (d + 1) := by
      show ((fsort kvs).map (·.2)).all _ = _
      rw [List.all_map]
      exact all_perm (fsort_perm h.2.1)
    rw [e, ← okdk_all]
    simp [Vl.okd, Vl.kind]
  | tag n w => simp [Vl.okd, Vl.parts, Vl.kind, Vl.own]
theorem size_own {v : Vl} (h : v.Wf) : v.size = v.own1 + (v.parts.map Vl.size).sum := by
  rw [size_parts h]
  cases v <;> rfl
theorem own1_pos (v : Vl) : 1 ≤ v.own1 := by cases v <;> simp [Vl.own1] <;> omega
theorem size_pos {v : Vl} (h : v.Wf) : 1 ≤ v.size := by have := size_own h; have := own1_pos v; omega
theorem len_sum {l : List Vl} (h : ∀ p ∈ l, p.Wf) : l.length ≤ (l.map Vl.size).sum := by
  induction l with
  | nil => simp
  | cons v r ih =>
    have h1 := size_pos (h v List.mem_cons_self)
    have h2 := ih fun p hp => h p (List.mem_cons_of_mem _ hp)
    simp only [List.length_cons, List.map_cons, List.sum_cons]
    omega
/-- the stack of is_value -/
def stD (p : Vl × Nat) : D := .tup [p.1.D, .int p.2]
def stC (st : List (Vl × Nat)) : Cell := .lst (st.map fun p => T.d (stD p))
def stS (st : List (Vl × Nat)) : Nat := (st.map fun p => p.1.size).sum
def good (sz : Nat) (st : List (Vl × Nat)) : Bool := (st.all fun p => p.1.okd p.2) && decide (sz + stS st ≤ 300)
theorem app_get {μ : Mu} {c : Cell} : (μ ++ [c])[μ.length]? = some c := by simp
theorem app_set {μ : Mu} {c c' : Cell} : (μ ++ [c]).set μ.length c' = μ ++ [c'] := by simp
theorem app_fz {μ : Mu} {xs : List T} : fzAt (μ ++ [.lst xs]) μ.length = none := by simp [fzAt]
theorem rd_cell {μ : Mu} {n : Nat} {xs : List T} (h : μ[n]? = some (.lst xs)) : rd μ (.p n) = .p n := by simp [fzAt, h]
theorem truth_cell {μ : Mu} {n : Nat} {xs : List T} (h : μ[n]? = some (.lst xs)) : truth μ (.p n) = some (!xs.isEmpty) := by simp [lstOf, h]
theorem pop_cell {μ : Mu} {n : Nat} {xs : List T} {x : D} (h : μ[n]? = some (.lst (xs ++ [.d x]))) : gPop (.p n) [] μ = some (.ok (.d x) (μ.set n (.lst xs))) := by
  simp [gPop, lstC, h]
theorem ext_cell {μ : Mu} {n : Nat} {xs : List T} {ys : List D} (h : μ[n]? = some (.lst xs)) (hl : xs.length + ys.length ≤ SL) : gExt (.p n) [.d (.lst ys)] μ = some (.ok (.d .non) (μ.set n (.lst (xs ++ ys.map T.d)))) := by
  simp [gExt, lstC, h, lstTr, lstOf]
  exact hl
theorem y_cell {μ : Mu} {n : Nat} {xs : List T} (h : μ[n]? = some (.lst xs)) : yLst μ (.p n) = true := by simp [yLst, lstC, h]
theorem stS_app (a b : List (Vl × Nat)) : stS (a ++ b) = stS a + stS b := by simp [stS]
theorem all_app {α : Type} {p : α → Bool} (a b : List α) : (a ++ b).all p = (a.all p && b.all p) := List.all_append
theorem loop_eq {μ : Mu} {v : T} {cnd : TF} {body : SF} (hc : cnd = bT (eVar 2)) (hb : body = (sSeq (sAsg (eBM yLst gPop (eVar 2) aNil) (gTp [3, 4]))
    (sSeq (sIf (bOr (bNot (bT (eDef F__keeps_own_bounds (aCons (eVar 3) aNil)))) (bAnd (bT (eDef F__has_depth (aCons (eVar 3) aNil))) (bE (eOp (gEqF false) (eVar 4) (eC (.int 20)))))) (sRet (eC (.bl false))) sNx)
    (sSeq (sAug 1 gAdd (eDef F__own_size (aCons (eVar 3) aNil)))
    (sSeq (sIf (bE (eOp gGt (eVar 1) (eC (.int 300)))) (sRet (eC (.bl false))) sNx)
    (sDrop (eBM yLst gExt (eVar 2) (aCons (eFz (cComp [5] (iLst (eDef F_parts_of (aCons (eVar 3) aNil))) (gN 5) bTrue (eTup (aCons (eVar 5) (aCons (eOp gAdd (eVar 4) (eC (.int 1))) aNil))))) aNil)))))))) :
    ∀ (n : Nat) (st : List (Vl × Nat)) (sz : Nat) (x3 x4 : Option T), (∀ p ∈ st, p.1.Wf) → stS st < n → sz + stS st ≤ 1000000 → sz ≤ 300 →
    ∃ ρ' c', whileN cnd body n [some v, some (.d (.int sz)), some (.p μ.length), x3, x4, none] (μ ++ [stC st]) = some (.ok (if good sz st = true then .nx else .ret (.d (.bl false)), ρ') (μ ++ [c']))
  | 0, _, _, _, _, _, h, _, _ => by omega
  | n + 1, st, sz, x3, x4, hw, hn, hm, h3 => by
    have hl0 : st.length ≤ 1000000 := by
      have := len_sum (l := st.map (·.1)) (by intro p hp; obtain ⟨q, hq, e⟩ := List.mem_map.mp hp; exact e ▸ hw q hq)
      rw [List.length_map, List.map_map] at this
      have e : (st.map (Vl.size ∘ fun x => x.1)).sum = stS st := rfl
      omega
    have hg : (μ ++ [stC st])[μ.length]? = some (.lst (st.map fun p => T.d (stD p))) := app_get
    have ht : cnd [some v, some (.d (.int sz)), some (.p μ.length), x3, x4, none] (μ ++ [stC st]) = some (.ok (!st.isEmpty) (μ ++ [stC st])) := by
      rw [hc]
      show mbind _ _ _ = _
      rw [mb_ok (show eVar 2 _ _ = some (.ok (.p μ.length) _) from rfl)]
      show (match truth _ (rd _ _) with | some b => some (Rs.ok b _) | none => none) = _
      rw [rd_cell hg, truth_cell hg]
      simp
    show ∃ ρ' c', mbind (cnd _) _ _ = _
    rw [mb_ok ht]
    rcases List.eq_nil_or_concat st with e | ⟨st', ⟨w, d⟩, e⟩
    · subst e
      have e : good sz [] = true := by
        unfold good stS
        simp [h3]
      rw [e]
      exact ⟨_, _, rfl⟩
    · rw [List.concat_eq_append] at e
      subst e
      have hww : w.Wf := hw (w, d) (by simp)
      have hw' : ∀ p ∈ st', p.1.Wf := fun p hp => hw p (by simp [hp])
      have hcell : stC (st' ++ [(w, d)]) = .lst ((st'.map fun p => T.d (stD p)) ++ [T.d (.tup [w.D, .int d])]) := by simp [stC, stD]
      rw [hcell] at hg ⊢
      have hg1 : (μ ++ [stC st'])[μ.length]? = some (.lst (st'.map fun p => T.d (stD p))) := app_get
      have hso := size_own hww
      have hp1 := own1_pos w
      have hss : stS (st' ++ [(w, d)]) = stS st' + w.size := by simp [stS]
      rw [hss] at hn hm
      have hne : (!(st' ++ [(w, d)]).isEmpty) = true := by simp
      rw [hne]
      show ∃ ρ' c', mbind (body _) _ _ = _
      let ρ1 : Rho := [some v, some (.d (.int sz)), some (.p μ.length), some (.d w.D), some (.d (.int d)), none]
      have hA : ∀ k r, k ρ1 (μ ++ [stC st']) = r → sSeq (sAsg (eBM yLst gPop (eVar 2) aNil) (gTp [3, 4])) k [some v, some (.d (.int sz)), some (.p μ.length), x3, x4, none] (μ ++ [.lst ((st'.map fun p => T.d (stD p)) ++ [T.d (.tup [w.D, .int d])])]) = r := by
        intro k r h
        refine seq_nx ?_ h
        have hg2 : (μ ++ [Cell.lst ((st'.map fun p => T.d (stD p)) ++ [T.d (.tup [w.D, .int d])])])[μ.length]? = some (.lst ((st'.map fun p => T.d (stD p)) ++ [T.d (.tup [w.D, .int d])])) := app_get
        have y := y_cell hg2
        have q := pop_cell hg2
        rw [app_set] at q
        simp [eBM, y, q, gTp, tupOf, gNs, ρ1, stC]
      let flag : Bool := !w.own || (decide (2 ≤ w.kind) && decide (d = 20))
      have hB : bOr (bNot (bT (eDef F__keeps_own_bounds (aCons (eVar 3) aNil)))) (bAnd (bT (eDef F__has_depth (aCons (eVar 3) aNil))) (bE (eOp (gEqF false) (eVar 4) (eC (.int 20))))) ρ1 (μ ++ [stC st']) = some (.ok flag (μ ++ [stC st'])) := by
        have k1 := keeps_eq hww (μ ++ [stC st'])
        have k2 := has_depth_eq w (μ ++ [stC st'])
        have e20 : (((d : Nat) : Int) = 20) ↔ d = 20 := by omega
        cases ho : w.own
        · simp [ρ1, k1, ho, flag]
        · by_cases hk : 2 ≤ w.kind
          · simp [ρ1, k1, ho, k2, hk, flag, e20]
          · simp [ρ1, k1, ho, k2, hk, flag]
      have hok := okd_eq hww d
      have hgd : good sz (st' ++ [(w, d)]) = (!flag && good (sz + w.own1) (st' ++ w.parts.map fun p => (p, d + 1))) := by
        unfold good
        rw [all_app, all_app, hss, stS_app]
        have e1 : stS (w.parts.map fun p => (p, d + 1)) = (w.parts.map Vl.size).sum := by simp [stS, List.map_map, Function.comp_def]
        have e2 : (w.parts.map fun p => (p, d + 1)).all (fun p => p.1.okd p.2) = w.parts.all fun p => p.okd (d + 1) := by rw [List.all_map]; rfl
        have e3 : (sz + (stS st' + w.size) ≤ 300) ↔ (sz + w.own1 + (stS st' + (w.parts.map Vl.size).sum) ≤ 300) := by omega
        rw [e1, e2]
        simp only [List.all_cons, List.all_nil, Bool.and_true, hok, flag, decide_eq_decide.mpr e3]
        cases w.own <;> cases (decide (2 ≤ w.kind) && decide (d = 20)) <;> cases (st'.all fun p => p.1.okd p.2) <;> simp
      rw [hb]
      cases hf : flag
      · rw [hf] at hB hgd
        rw [hgd]
        let ρ2 : Rho := [some v, some (.d (.int ((sz + w.own1 : Nat) : Int))), some (.p μ.length), some (.d w.D), some (.d (.int d)), none]
        have hC : sAug 1 gAdd (eDef F__own_size (aCons (eVar 3) aNil)) ρ1 (μ ++ [stC st']) = some (.ok (.nx, ρ2) (μ ++ [stC st'])) := by
          have k1 := own_size_eq hww (μ ++ [stC st'])
          simp [sAug, ρ1, k1, ρ2]
        by_cases h300 : sz + w.own1 ≤ 300
        · have hD : bE (eOp gGt (eVar 1) (eC (.int 300))) ρ2 (μ ++ [stC st']) = some (.ok false (μ ++ [stC st'])) := by
            have : ¬ (300 : Int) < (sz : Int) + (w.own1 : Int) := by omega
            simp [ρ2, this]
          have hE : sDrop (eBM yLst gExt (eVar 2) (aCons (eFz (cComp [5] (iLst (eDef F_parts_of (aCons (eVar 3) aNil))) (gN 5) bTrue (eTup (aCons (eVar 5) (aCons (eOp gAdd (eVar 4) (eC (.int 1))) aNil))))) aNil)) ρ2 (μ ++ [stC st']) = some (.ok (.nx, ρ2) (μ ++ [stC (st' ++ w.parts.map fun p => (p, d + 1))])) := by
            have k1 := parts_eq hww (μ ++ [stC st'])
            have k2 : eFz (cComp [5] (iLst (eDef F_parts_of (aCons (eVar 3) aNil))) (gN 5) bTrue (eTup (aCons (eVar 5) (aCons (eOp gAdd (eVar 4) (eC (.int 1))) aNil)))) ρ2 (μ ++ [stC st']) = some (.ok (.d (.lst (w.parts.map fun p => stD (p, d + 1)))) (μ ++ [stC st'])) := by
              refine cmp_eq w.parts (fun p => T.d p.D) (fun p => stD (p, d + 1)) (iLst_eq _ ?_) (le_M (parts_len hww)) ?_
              · simp [ρ2, k1]
              · exact fun p hp => ⟨_, rfl, by simp [wipeR, ρ2, eTup, dTs, SL, stD]⟩
            have y := y_cell hg1
            have hpl := parts_len hww
            have hl : (st'.map fun p => T.d (stD p)).length + (w.parts.map fun p => stD (p, d + 1)).length ≤ SL := by
              simp at hl0 ⊢
              show _ ≤ 16777216
              omega
            have q := ext_cell hg1 hl
            rw [app_set] at q
            have e : stC (st' ++ w.parts.map fun p => (p, d + 1)) = .lst ((st'.map fun p => T.d (stD p)) ++ (w.parts.map fun p => stD (p, d + 1)).map T.d) := by
              simp [stC, List.map_map, Function.comp_def]
            rw [e]
            have a1 : eVar 2 ρ2 (μ ++ [stC st']) = some (.ok (.p μ.length) (μ ++ [stC st'])) := rfl
            simp only [sDrop, eBM, mbind, a1, y, if_true, aCons, k2, aNil, mret, q]
          have hsum : stS (st' ++ w.parts.map fun p => (p, d + 1)) = stS st' + (w.parts.map Vl.size).sum := by
            rw [stS_app]
            simp [stS, List.map_map, Function.comp_def]
          obtain ⟨ρ', c', h⟩ := loop_eq hc hb n (st' ++ w.parts.map fun p => (p, d + 1)) (sz + w.own1) (some (.d w.D)) (some (.d (.int d))) (by
            intro p hp
            rcases List.mem_append.mp hp with q | q
            · exact hw' p q
            · obtain ⟨z, hz, e⟩ := List.mem_map.mp q
              exact e ▸ parts_wf hww z hz) (by rw [hsum]; omega) (by rw [hsum]; omega) h300
          refine ⟨ρ', c', (mb_ok (hA _ _ (seq_pass hB (seq_nx hC (seq_pass hD hE))))).trans ?_⟩
          rw [← hb]
          exact h
        · have hD : bE (eOp gGt (eVar 1) (eC (.int 300))) ρ2 (μ ++ [stC st']) = some (.ok true (μ ++ [stC st'])) := by
            have : (300 : Int) < (sz : Int) + (w.own1 : Int) := by omega
            simp [ρ2, this]
          have hgf : good (sz + w.own1) (st' ++ w.parts.map fun p => (p, d + 1)) = false := by
            unfold good
            rw [decide_eq_false (by omega), Bool.and_false]
          rw [hgf]
          exact ⟨ρ2, stC st', (mb_ok (hA _ _ (seq_pass hB (seq_nx hC (seq_hit hD (ret_eq rfl)))))).trans rfl⟩
      · rw [hf] at hB hgd
        rw [hgd]
        exact ⟨_, _, (mb_ok (hA _ _ (seq_hit hB (ret_eq rfl)))).trans rfl⟩
end Fm
set_option Elab.async false
set_option linter.all false
set_option maxRecDepth 100000
namespace Fm
open PySem L2 PySem.Spec PyProof.Rows
def Vl.isV (v : Vl) : Bool := v.okd 0 && decide (v.size ≤ 300)
theorem is_value_eq {v : Vl} (h : v.Wf) (hs : v.size ≤ 1000000) (μ : Mu) : F_is_value [.d v.D] μ = some (.ok (.d (.bl v.isV)) μ) := by
  obtain ⟨ρ', c', hl⟩ := loop_eq (μ := μ) (v := .d v.D) (cnd := _) (body := _) rfl rfl (v.size + 1) [(v, 0)] 0 none none (by simpa using h) (by simp [stS]) (by simpa [stS] using hs) (by omega)
  have hw := sWhile_of hl
  have hg : good 0 [(v, 0)] = v.isV := by simp [good, stS, Vl.isV]
  rw [hg] at hw
  have h1 : eNew (cLst (aCons (eTup (aCons (eVar 0) (aCons (eC (.int 0)) aNil))) aNil)) [some (.d v.D), some (.d (.int 0)), none, none, none, none] μ = some (.ok (.p μ.length) (μ ++ [stC [(v, 0)]])) := by
    simp [eNew, cLst, eTup, dTs, SL, nwC, stC, stD]
  cases hv : v.isV
  · rw [hv] at hw
    exact fnB_own (seq_asg rfl (seq_asg h1 (seq_ret hw)))
  · rw [hv] at hw
    exact fnB_own (seq_asg rfl (seq_asg h1 (seq_nx hw rfl)))
/-! ### depths, and the law's own sizes -/
mutual
def Vl.dep : Vl → Nat
  | .lst xs => 1 + Vl.deps xs
  | .rc kvs => 1 + Vl.depk kvs
  | .tag _ v => 1 + v.dep
  | _ => 0
def Vl.deps : List Vl → Nat
  | [] => 0
  | v :: r => max v.dep (Vl.deps r)
def Vl.depk : List (Str × Vl) → Nat
  | [] => 0
  | (_, v) :: r => max v.dep (Vl.depk r)
end
theorem deps_le {n : Nat} : ∀ {xs : List Vl}, Vl.deps xs ≤ n ↔ ∀ v ∈ xs, v.dep ≤ n
  | [] => by simp [Vl.deps]
  | v :: r => by rw [Vl.deps, Nat.max_le, deps_le]; simp
theorem depk_le {n : Nat} : ∀ {xs : List (Str × Vl)}, Vl.depk xs ≤ n ↔ ∀ p ∈ xs, p.2.dep ≤ n
  | [] => by simp [Vl.depk]
  | (_, v) :: r => by rw [Vl.depk, Nat.max_le, depk_le]; simp
theorem parts_dep {v : Vl} (h : v.Wf) {n : Nat} (hd : v.dep ≤ n + 1) : ∀ p ∈ v.parts, p.dep ≤ n := by
  cases v with
  | int => intro p hp; cases hp
  | str => intro p hp; cases hp
  | lst xs =>
    rw [Vl.dep] at hd
    have h1 : Vl.deps xs ≤ n := by omega
    exact deps_le.mp h1
  | rc kvs =>
    rw [Vl.dep] at hd
    intro p hp
    obtain ⟨q, hq, e⟩ := List.mem_map.mp hp
    exact e ▸ depk_le.mp (by omega) q ((fsort_perm h.2.1).mem_iff.mp hq)
  | tag n w =>
    rw [Vl.dep] at hd
    intro p hp
    rw [List.mem_singleton.mp hp]
    omega
theorem dep_parts {v : Vl} (hd : v.dep = 0) : v.parts = [] := by
  cases v with
  | int => rfl
  | str => rfl
  | lst xs => rw [Vl.dep] at hd; omega
  | rc xs => rw [Vl.dep] at hd; omega
  | tag n xs => rw [Vl.dep] at hd; omega
theorem law_parts_eq {v : Vl} (h : v.Wf) (μ : Mu) : F__law_parts [.d v.D] μ = some (.ok (.d (.lst (v.parts.map Vl.D))) μ) := by
  have hk := kind_eq v μ
  have ha : eDef F_kind_of (aCons (eVar 0) aNil) [some (.d v.D), none, none, none] μ = some (.ok (.d (.int v.kind)) μ) := by simp [hk]
  cases v with
  | int i => refine fnB_ret (seq_asg ha (seq_pass ?_ (seq_pass ?_ (seq_pass ?_ (ret_eq ?_))))) <;> simp [Vl.kind, Vl.parts, eFz, cLst, fzC, Cell.data, dTs]
  | str i => refine fnB_ret (seq_asg ha (seq_pass ?_ (seq_pass ?_ (seq_pass ?_ (ret_eq ?_))))) <;> simp [Vl.kind, Vl.parts, eFz, cLst, fzC, Cell.data, dTs]
  | lst xs =>
    refine fnB_ret (seq_asg ha (seq_hit ?_ (ret_eq (cmp_eq xs (fun v => T.d v.D) Vl.D (iLst_ds ?_) ?_ ?_))))
    · simp [Vl.kind]
    · simp [Vl.D]
    · exact le_M h.1
    · exact fun v hv => ⟨_, rfl, by simp [wipeR]⟩
  | rc kvs =>
    have e : (Vl.rc kvs).parts.map Vl.D = (sortS (kvs.map (·.1))).map fun n => (fget kvs n).D := by
      simp [Vl.parts, fsort, List.map_map, Function.comp_def]
    rw [e]
    refine fnB_ret (seq_asg ha (seq_pass ?_ (seq_hit ?_ (ret_eq (cmp_eq (sortS (kvs.map (·.1))) (fun s => T.d (.str s)) (fun n => (fget kvs n).D) (iLst_eq _ (sorted_eq h.1 ?_)) ?_ ?_)))))
    · simp [Vl.kind]
    · simp [Vl.kind]
    · simp [Vl.D]
    · have := h.1
      rw [sortS_len, List.length_map]; show _ ≤ 16777216; omega
    · intro n hn
      refine ⟨_, rfl, ?_⟩
      simp [wipeR, Vl.D, dget_eq μ (sort_mem hn)]
  | tag n w =>
    refine fnB_ret (seq_asg ha (seq_pass ?_ (seq_pass ?_ (seq_hit ?_ (ret_eq ?_)))))
    · simp [Vl.kind]
    · simp [Vl.kind]
    · simp [Vl.kind]
    · simp [Vl.D, Vl.parts, gIx, gIx2, lstOf, tupOf, ixT, eFz, cLst, fzC, Cell.data, dTs, SL]
theorem sum_loop {μ : Mu} {f : FN} {v : T} : ∀ (l : List Vl) (acc : Nat) (x : Option T), (∀ p ∈ l, f [.d p.D] μ = some (.ok (.d (.int p.size)) μ)) →
    ∃ x', forL (gN 2) (sAsg (eOp gAdd (eVar 1) (eDef f (aCons (eVar 2) aNil))) (gN 1)) (l.map fun p => T.d p.D) [some v, some (.d (.int acc)), x] μ = some (.ok (.nx, [some v, some (.d (.int ((acc + (l.map Vl.size).sum : Nat) : Int))), x']) μ)
  | [], acc, x, _ => ⟨x, by simp [forL]⟩
  | p :: r, acc, x, h => by
    have h1 := h p List.mem_cons_self
    obtain ⟨x', h2⟩ := sum_loop r (acc + p.size) (some (.d p.D)) fun q hq => h q (List.mem_cons_of_mem _ hq)
    refine ⟨x', ?_⟩
    rw [show ((p :: r).map Vl.size).sum = p.size + (r.map Vl.size).sum from by simp, ← Nat.add_assoc]
    simp only [List.map_cons, forL, gN, mret, mbind, List.set_cons_succ, List.set_cons_zero, sAsg, eOp, eVar, mof, slotT, List.getElem?_cons_succ, List.getElem?_cons_zero, eDef, aCons, aNil, h1, stp, rd, gAdd, g2or, gI]
    exact h2
theorem law_size_of {v : Vl} (h : v.Wf) {f : FN} {μ : Mu} (hf : ∀ p ∈ v.parts, f [.d p.D] μ = some (.ok (.d (.int p.size)) μ)) : fnB 3 (b__law_size F__law_parts F_kind_of f) [.d v.D] μ = some (.ok (.d (.int v.size)) μ) := by
  have hr := kind_eq v μ
  have hp := law_parts_eq h μ
  by_cases hk : v.kind = 1
  · cases v with
    | str s =>
      have h' : s.length ≤ 1000 := h
      have hl : s.length ≤ 16777216 := le_M h'
      refine fnB_ret (seq_hit ?_ (ret_eq ?_))
      · simp [hr, hk]
      · simp [Vl.D, Vl.size, eB, ofG, len_str, hl]
    | _ => simp [Vl.kind] at hk
  · obtain ⟨x', h2⟩ := sum_loop (v := .d v.D) v.parts 1 none hf
    refine fnB_ret (seq_pass ?_ (seq_asg rfl (seq_nx (for_eq (iLst_eq v.parts ?_) h2) (ret_eq ?_))))
    · simp [hr, hk]
    · simp [hp]
    · have e : v.size = 1 + (v.parts.map Vl.size).sum := by
        rw [size_own h]
        cases v with
        | str => simp [Vl.kind] at hk
        | _ => rfl
      rw [e]
      rfl
theorem law_size_eq (μ : Mu) : ∀ (n : Nat) {v : Vl}, v.Wf → v.dep ≤ n → F__law_size (n + 1) [.d v.D] μ = some (.ok (.d (.int v.size)) μ)
  | 0, v, h, hd => law_size_of h fun p hp => by rw [dep_parts (by omega)] at hp; cases hp
  | n + 1, v, h, hd => law_size_of h fun p hp => law_size_eq μ n (parts_wf h p hp) (parts_dep h hd p hp)
end Fm
set_option Elab.async false
set_option linter.all false
set_option maxRecDepth 100000
namespace Fm
open PySem L2 PySem.Spec PyProof.Rows
/-! ### generated values -/
def G0 (v : Vl) : Prop := (∃ i, v = .int i ∧ numOk i) ∨ ∃ s, v = .str s ∧ s.length ≤ 3 ∧ Wd3 s
def Gn : Nat → Vl → Prop
  | 0, v => G0 v
  | n + 1, v => G0 v ∨ (∃ xs, v = .lst xs ∧ xs.length ≤ 3 ∧ ∀ x ∈ xs, Gn n x) ∨ (∃ kvs : List (Str × Vl), v = .rc kvs ∧ kvs.length ≤ 3 ∧ (kvs.map (·.1)).Nodup ∧ ∀ p ∈ kvs, p.1 ∈ kNames ∧ Gn n p.2) ∨ ∃ s w, v = .tag s w ∧ s ∈ kNames ∧ Gn n w
theorem Gn.ind {P : Nat → Vl → Prop} (hi : ∀ n i, numOk i → P n (.int i)) (hs : ∀ n s, s.length ≤ 3 → Wd3 s → P n (.str s)) (hl : ∀ n xs, xs.length ≤ 3 → (∀ x ∈ xs, Gn n x ∧ P n x) → P (n + 1) (.lst xs))
    (hr : ∀ n (kvs : List (Str × Vl)), kvs.length ≤ 3 → (kvs.map (·.1)).Nodup → (∀ p ∈ kvs, p.1 ∈ kNames ∧ Gn n p.2 ∧ P n p.2) → P (n + 1) (.rc kvs)) (ht : ∀ n s w, s ∈ kNames → Gn n w → P n w → P (n + 1) (.tag s w)) : ∀ {n : Nat} {v : Vl}, Gn n v → P n v
  | 0, v, h => by
    rcases h with ⟨i, rfl, h⟩ | ⟨s, rfl, h1, h2⟩
    · exact hi _ _ h
    · exact hs _ _ h1 h2
  | n + 1, v, h => by
    rcases h with (⟨i, rfl, h⟩ | ⟨s, rfl, h1, h2⟩) | ⟨xs, rfl, h1, h2⟩ | ⟨kvs, rfl, h1, h2, h3⟩ | ⟨s, w, rfl, h1, h2⟩
    · exact hi _ _ h
    · exact hs _ _ h1 h2
    · exact hl n xs h1 fun x hx => ⟨h2 x hx, Gn.ind hi hs hl hr ht (h2 x hx)⟩
    · exact hr n kvs h1 h2 fun p hp => ⟨(h3 p hp).1, (h3 p hp).2, Gn.ind hi hs hl hr ht (h3 p hp).2⟩
    · exact ht n s w h1 h2 (Gn.ind hi hs hl hr ht h2)
theorem kNames_nm : ∀ s ∈ kNames, isNm s = true := by decide +kernel
theorem kNames_len : ∀ s ∈ kNames, s.length ≤ 1000 := by decide +kernel
theorem wd3_alpha {s : Str} (h : Wd3 s) : only s alpha = true := by
  unfold only
  rw [List.all_eq_true]
  intro c hc
  rcases h c hc with e | e | e <;> subst e <;> decide +kernel
theorem Gn.wf {n : Nat} {v : Vl} (h : Gn n v) : v.Wf := by
  refine Gn.ind (P := fun _ v => v.Wf) (fun _ _ _ => trivial) (fun _ s hs _ => ?_) (fun n xs h1 h2 => ?_) (fun n kvs h1 h2 h3 => ?_) (fun n s w h1 _ h2 => ?_) h
  · show s.length ≤ 1000
    omega
  · exact ⟨by omega, Vl.Wfs_all.mpr fun v hv => (h2 v hv).2⟩
  · exact ⟨by omega, h2, Vl.Wfk_all.mpr fun p hp => ⟨kNames_len _ (h3 p hp).1, (h3 p hp).2.2⟩⟩
  · exact ⟨kNames_len _ h1, h2⟩
theorem Gn.dep {n : Nat} {v : Vl} (h : Gn n v) : v.dep ≤ n := by
  refine Gn.ind (P := fun n v => v.dep ≤ n) (fun _ _ _ => Nat.zero_le _) (fun _ s hs _ => Nat.zero_le _) (fun n xs h1 h2 => ?_) (fun n kvs h1 h2 h3 => ?_) (fun n s w h1 _ h2 => ?_) h
  · have := deps_le.mpr fun v hv => (h2 v hv).2
    rw [Vl.dep]
    omega
  · have := depk_le.mpr fun p hp => (h3 p hp).2.2
    rw [Vl.dep]
    omega
  · rw [Vl.dep]
    omega
theorem Gn.okd {n : Nat} {v : Vl} (h : Gn n v) : ∀ d, d + n ≤ 20 → v.okd d = true := by
  refine Gn.ind (P := fun n v => ∀ d, d + n ≤ 20 → v.okd d = true) (fun n i h d _ => ?_) (fun _ s hs hw d _ => ?_) (fun n xs h1 h2 d hd => ?_) (fun n kvs h1 h2 h3 d hd => ?_) (fun n s w h1 _ h2 d hd => ?_) h
  · simp only [Vl.okd, Vl.own]
    exact decide_eq_true h
  · simp only [Vl.okd, Vl.own, wd3_alpha hw, Bool.and_true]
    exact decide_eq_true (by omega)
  · simp only [Vl.okd, okds_all]
    have : d ≠ 20 := by omega
    simp only [this, decide_false, Bool.not_false, Bool.true_and, List.all_eq_true]
    exact fun v hv => (h2 v hv).2 (d + 1) (by omega)
  · simp only [Vl.okd, Vl.own, okdk_all]
    have : d ≠ 20 := by omega
    have h8 : kvs.length ≤ 8 := by omega
    simp only [this, h8, decide_false, decide_true, Bool.not_false, Bool.true_and, Bool.and_true, Bool.and_eq_true, List.all_eq_true]
    exact ⟨fun p hp => kNames_nm _ (h3 p hp).1, fun p hp => (h3 p hp).2.2 (d + 1) (by omega)⟩
  · have : d ≠ 20 := by omega
    simp only [Vl.okd, kNames_nm _ h1, this, decide_false, Bool.not_false, Bool.true_and]
    exact h2 (d + 1) (by omega)
def bnd : Nat → Nat
  | 0 => 4
  | n + 1 => 1 + 3 * bnd n
theorem sum_le {α : Type} {f : α → Nat} {B : Nat} : ∀ {l : List α}, (∀ x ∈ l, f x ≤ B) → (l.map f).sum ≤ l.length * B
  | [], _ => by simp
  | x :: r, h => by
    have h1 := h x List.mem_cons_self
    have h2 := sum_le (l := r) fun y hy => h y (List.mem_cons_of_mem _ hy)
    simp only [List.map_cons, List.sum_cons, List.length_cons, Nat.add_mul]
    omega
theorem bnd_lo : ∀ n, 4 ≤ bnd n
  | 0 => Nat.le_refl _
  | n + 1 => by have := bnd_lo n; rw [bnd]; omega
theorem Gn.size {n : Nat} {v : Vl} (h : Gn n v) : v.size ≤ bnd n := by
  refine Gn.ind (P := fun n v => v.size ≤ bnd n) (fun n _ _ => ?_) (fun n s hs _ => ?_) (fun n xs h1 h2 => ?_) (fun n kvs h1 h2 h3 => ?_) (fun n s w h1 _ h2 => ?_) h
  · have := bnd_lo n
    rw [Vl.size]; omega
  · have := bnd_lo n
    rw [Vl.size]; omega
  · have h3 := sum_le fun v hv => (h2 v hv).2
    have h4 : xs.length * bnd n ≤ 3 * bnd n := Nat.mul_le_mul_right _ h1
    rw [Vl.size, Vl.sizes_sum, bnd]
    omega
  · have h3 := sum_le (f := fun p : Str × Vl => p.2.size) fun p hp => (h3 p hp).2.2
    have h4 : kvs.length * bnd n ≤ 3 * bnd n := Nat.mul_le_mul_right _ h1
    rw [Vl.size, Vl.sizek_sum, bnd]
    omega
  · have := bnd_lo n
    rw [Vl.size, bnd]
    omega
/-! ### a record that grows -/
def kput (kvs : List (Str × Vl)) (n : Str) (v : Vl) : List (Str × Vl) := if (kvs.any fun p => decide (p.1 = n)) = true then kvs.map fun p => if p.1 = n then (p.1, v) else p else kvs ++ [(n, v)]
def tk (kvs : List (Str × Vl)) : List (Key × T) := kvs.map fun p => (Sum.inr p.1, T.d p.2.D)
theorem putT_eq (kvs : List (Str × Vl)) (n : Str) (v : Vl) : putT (tk kvs) (.inr n) (.d v.D) = tk (kput kvs n v) := by
  have ha : ((tk kvs).any fun kv => decide (kv.1 = (Sum.inr n : Key))) = kvs.any fun p => decide (p.1 = n) := by
    unfold tk
    rw [List.any_map]
    congr 1
    funext p
    simp
  unfold putT kput
  rw [ha]
  split
  · unfold tk
    rw [List.map_map, List.map_map]
    refine List.map_congr_left fun p _ => ?_
    by_cases e : p.1 = n
    · simp [e]
    · simp [e]
  · simp [tk]
theorem kput_len (kvs : List (Str × Vl)) (n : Str) (v : Vl) : (kput kvs n v).length ≤ kvs.length + 1 := by
  unfold kput
  split <;> simp
theorem kput_names (kvs : List (Str × Vl)) (n : Str) (v : Vl) : (kput kvs n v).map (·.1) = if (kvs.any fun p => decide (p.1 = n)) = true then kvs.map (·.1) else kvs.map (·.1) ++ [n] := by
  unfold kput
  split
  · rw [List.map_map]
    refine List.map_congr_left fun p _ => ?_
    by_cases e : p.1 = n <;> simp [e]
  · simp
theorem kput_nodup {kvs : List (Str × Vl)} {n : Str} {v : Vl} (h : (kvs.map (·.1)).Nodup) : ((kput kvs n v).map (·.1)).Nodup := by
  rw [kput_names]
  split
  · exact h
  · rename_i hn
    rw [List.nodup_append]
    refine ⟨h, by simp, ?_⟩
    intro a ha c hc
    rw [List.mem_singleton.mp hc]
    obtain ⟨p, hp, e⟩ := List.mem_map.mp ha
    intro z
    apply hn
    rw [List.any_eq_true]
    exact ⟨p, hp, decide_eq_true (e.trans z)⟩
theorem kput_all {kvs : List (Str × Vl)} {n : Str} {v : Vl} {P : Str × Vl → Prop} (h : ∀ p ∈ kvs, P p) (hv : P (n, v)) : ∀ p ∈ kput kvs n v, P p := by
  intro p hp
  unfold kput at hp
  split at hp
  · obtain ⟨q, hq, e⟩ := List.mem_map.mp hp
    split at e
    · rename_i en
      rw [← e, en]
      exact hv
    · rw [← e]
      exact h q hq
  · rcases List.mem_append.mp hp with q | q
    · exact h p q
    · rw [List.mem_singleton.mp q]
      exact hv
theorem dKs_tk (μ : Mu) : ∀ kvs : List (Str × Vl), dKs μ (tk kvs) = some (Vl.Dk kvs)
  | [] => rfl
  | (n, v) :: r => by simp [tk, dKs, Vl.Dk]; have := dKs_tk μ r; unfold tk at this; rw [this]
end Fm
set_option Elab.async false
set_option linter.all false
set_option maxRecDepth 100000
namespace Fm
open PySem L2 PySem.Spec PyProof.Rows
theorem Bx_app {μ : Mu} {b : Nat} {ds : List Int} {k : Nat} {c : Cell} (h : b < μ.length) : Bx μ b ds k ++ [c] = Bx (μ ++ [c]) b ds k := by
  unfold Bx
  rw [List.set_append_left _ _ h]
theorem Bx_own {μ : Mu} {b : Nat} {ds : List Int} {k j : Nat} {z : Mu} {x : D} : finMu (Bx μ b ds k) (Bx μ b ds j ++ z) (.d x) = Bx μ b ds j := by
  have h := finMu_set (μ := Bx μ b ds k) (z := z) (x := x) (b := b) (c := bx ds j) fun _ => bx_lt
  rwa [Bx_set] at h
/-- values by a comprehension that draws -/
theorem comp_ex {μ : Mu} {b : Nat} {ds : List Int} {i : Nat} {el : EF} {ρ : Rho} {P : Vl → Prop} (he : ∀ (x : T) (k : Nat), ∃ v j, P v ∧ el (ρ.set i (some x)) (Bx μ b ds k) = some (.ok (.d v.D) (Bx μ b ds j))) :
    ∀ (xs : List T) (acc : List T) (k : Nat), ∃ (vs : List Vl) (j : Nat), vs.length = xs.length ∧ (∀ v ∈ vs, P v) ∧ compL (gN i) bTrue el ρ xs acc (Bx μ b ds k) = some (.ok (.lst (acc ++ vs.map fun v => T.d v.D)) (Bx μ b ds j))
  | [], acc, k => ⟨[], k, rfl, by simp, by simp [compL]⟩
  | x :: r, acc, k => by
    obtain ⟨v, j, h1, h2⟩ := he x k
    obtain ⟨vs, j2, h3, h4, h5⟩ := comp_ex he r (acc ++ [T.d v.D]) j
    refine ⟨v :: vs, j2, by simp [h3], ?_, ?_⟩
    · intro w hw
      rcases List.mem_cons.mp hw with e | e
      · exact e ▸ h1
      · exact h4 w e
    · simp [compL, noex, bTrue, h2, h5]
theorem rng_of {d : Int} (h0 : 0 ≤ d) (h1 : d < 1000) : ∃ n : Nat, (n : Int) = d ∧ rng1 [.d (.int d)] = some (rngL 0 n) := by
  refine ⟨d.toNat, by omega, ?_⟩
  show (if _ then _ else _) = _
  rw [if_pos (by omega)]
theorem fnB_fin {N : Nat} {f : SF} {xs : List T} {ρ : Rho} {x : D} {μ μ' μ'' : Mu} (h : f (xs.map some ++ List.replicate (N - xs.length) none) μ = some (.ok (.ret (.d x), ρ) μ')) (hf : finMu μ μ' (.d x) = μ'') : fnB N f xs μ = some (.ok (.d x) μ'') := by
  unfold fnB
  rw [h]
  show some (Rs.ok _ (finMu _ _ _)) = _
  rw [hf]
section
variable {μ : Mu} {b : Nat} {ds : List Int} {k : Nat} {f : FN} {m : Int} {P : Vl → Prop}
noncomputable def gb (f : FN) : FN := fnB 5 (b__law_value F__law_draw F__law_word F__law_name f F__law_number)
theorem vdraw (h : b < μ.length) (x : T) : eDef F__law_draw (aCons (eVar 0) (aCons (eC (.int 8)) aNil)) [some (.p b), some x, none, none, none] (Bx μ b ds k) = some (.ok (.d (.int (drw ds k 8))) (Bx μ b ds (k + 1))) := by
  have e := draw_eq (ds := ds) (k := k) (m := 8) h (by omega)
  simp [e]
theorem vbase (h : b < μ.length) (hc : m = 0 ∨ drw ds k 8 < 2) : ∃ v j, G0 v ∧ gb f [.p b, .d (.int m)] (Bx μ b ds k) = some (.ok (.d v.D) (Bx μ b ds j)) := by
  obtain ⟨i, j1, hi, e1⟩ := number_ex (ds := ds) (k := k + 1) h
  obtain ⟨s, j2, hs, hw, e2⟩ := word_ex (ds := ds) (k := k + 1) h
  have hcond : bOr (bE (eOp (gEqF false) (eVar 1) (eC (.int 0)))) (bE (eOp gLt (eVar 2) (eC (.int 2)))) [some (.p b), some (.d (.int m)), some (.d (.int (drw ds k 8))), none, none] (Bx μ b ds (k + 1)) = some (.ok true (Bx μ b ds (k + 1))) := by
    by_cases h0 : m = 0
    · simp [h0]
    · have : drw ds k 8 < 2 := by rcases hc with e | e; exact absurd e h0; exact e
      simp [h0, this]
  by_cases h3 : drw ds k 8 < 3 ∨ drw ds k 8 = 4
  · refine ⟨.int i, j1, .inl ⟨i, rfl, hi⟩, fnB_to (seq_asg (vdraw h _) (seq_ret (if_t hcond (seq_hit ?_ (ret_eq ?_))))) Bx_fin⟩
    · by_cases h4 : drw ds k 8 < 3
      · simp [h4]
      · have : drw ds k 8 = 4 := by omega
        simp [this]
    · simp [e1, Vl.D]
  · have h4 : ¬ drw ds k 8 < 3 := fun z => h3 (.inl z)
    have h5 : ¬ drw ds k 8 = 4 := fun z => h3 (.inr z)
    refine ⟨.str s, j2, .inr ⟨s, rfl, hs, hw⟩, fnB_to (seq_asg (vdraw h _) (seq_ret (if_t hcond (seq_pass ?_ (ret_eq ?_))))) Bx_fin⟩
    · simp [h4, h5]
    · simp [e2, Vl.D]
theorem vcond (h0 : ¬ m = 0) (h2 : ¬ drw ds k 8 < 2) : bOr (bE (eOp (gEqF false) (eVar 1) (eC (.int 0)))) (bE (eOp gLt (eVar 2) (eC (.int 2)))) [some (.p b), some (.d (.int m)), some (.d (.int (drw ds k 8))), none, none] (Bx μ b ds (k + 1)) = some (.ok false (Bx μ b ds (k + 1))) := by
  simp [h0, h2]
theorem vlist (h : b < μ.length) (h0 : ¬ m = 0) (h2 : ¬ drw ds k 8 < 2) (h4 : drw ds k 8 < 4) (hf : ∀ {μ : Mu} (k : Nat), b < μ.length → ∃ v j, P v ∧ f [.p b, .d (.int (m - 1))] (Bx μ b ds k) = some (.ok (.d v.D) (Bx μ b ds j))) :
    ∃ xs j, xs.length ≤ 3 ∧ (∀ x ∈ xs, P x) ∧ gb f [.p b, .d (.int m)] (Bx μ b ds k) = some (.ok (.d (Vl.lst xs).D) (Bx μ b ds j)) := by
  have e := draw_eq (ds := ds) (k := k + 1) (m := 4) h (by omega)
  have l := drw_lo (ds := ds) (k := k + 1) (m := 4) (by omega)
  have u := drw_hi (ds := ds) (k := k + 1) (m := 4) (by omega)
  obtain ⟨n, hn, hr⟩ := rng_of l (by omega)
  obtain ⟨vs, j, h5, h6, h7⟩ := comp_ex (μ := μ) (b := b) (ds := ds) (i := 4) (el := eDef f (aCons (eVar 0) (aCons (eOp (gI fun i j => .int (i - j)) (eVar 1) (eC (.int 1))) aNil))) (ρ := [some (.p b), some (.d (.int m)), some (.d (.int (drw ds k 8))), none, none]) (P := P) (fun x k => by
    obtain ⟨v, j, q1, q2⟩ := hf (μ := μ) k h
    exact ⟨v, j, q1, by simp [q2]⟩) (rngL 0 n) [] (k + 1 + 1)
  have hl : (rngL 0 n).length ≤ 16777216 := by rw [rngL_len]; omega
  refine ⟨vs, j, by rw [h5, rngL_len]; omega, h6, fnB_to (seq_asg (vdraw h _) (seq_pass (vcond h0 h2) (seq_hit ?_ (ret_eq ?_)))) Bx_fin⟩
  · simp [h4]
  · have hz : cComp [4] (iRg rng1 (aCons (eDef F__law_draw (aCons (eVar 0) (aCons (eC (.int 4)) aNil))) aNil)) (gN 4) bTrue (eDef f (aCons (eVar 0) (aCons (eOp (gI fun i j => .int (i - j)) (eVar 1) (eC (.int 1))) aNil))) [some (.p b), some (.d (.int m)), some (.d (.int (drw ds k 8))), none, none] (Bx μ b ds (k + 1)) = some (.ok (.lst (vs.map fun v => T.d v.D)) (Bx μ b ds j)) := by
      show mbind _ _ _ = _
      rw [mb_ok (a := rngL 0 n) (μ' := Bx μ b ds (k + 1 + 1)) (by simp [iRg, e, hr])]
      show (if _ then _ else _) = _
      rw [if_pos hl]
      exact h7
    have hz2 := fz_of (μ := Bx μ b ds j) (vs.map Vl.D)
    rw [List.map_map] at hz2
    refine (mb_ok hz).trans ?_
    rw [Vl.D, Vl.Ds_map]
    exact hz2
theorem Bx_top {c : Cell} (h : b < μ.length) : (Bx (μ ++ [c]) b ds k)[μ.length]? = some c := by
  rw [← Bx_app h]
  have e : (Bx μ b ds k).length = μ.length := Bx_len
  rw [← e]
  simp
theorem Bx_topset {c c' : Cell} (h : b < μ.length) : (Bx (μ ++ [c]) b ds k).set μ.length c' = Bx (μ ++ [c']) b ds k := by
  rw [← Bx_app h, ← Bx_app h]
  have e : (Bx μ b ds k).length = μ.length := Bx_len
  rw [← e]
  simp
theorem dict_loop (h : b < μ.length) (hf : ∀ {μ : Mu} (k : Nat), b < μ.length → ∃ v j, P v ∧ f [.p b, .d (.int (m - 1))] (Bx μ b ds k) = some (.ok (.d v.D) (Bx μ b ds j))) {q : T} : ∀ (xs : List T) (kvs : List (Str × Vl)) (k : Nat) (x4 : Option T), kvs.length + xs.length ≤ 3 → (kvs.map (·.1)).Nodup → (∀ p ∈ kvs, p.1 ∈ kNames ∧ P p.2) →
    ∃ kvs' j x4', kvs'.length ≤ 3 ∧ (kvs'.map (·.1)).Nodup ∧ (∀ p ∈ kvs', p.1 ∈ kNames ∧ P p.2) ∧ forL (gN 4) (sPut setD (eDef f (aCons (eVar 0) (aCons (eOp (gI fun i j => .int (i - j)) (eVar 1) (eC (.int 1))) aNil))) (eVar 3) (eDef F__law_name (aCons (eVar 0) aNil))) xs [some (.p b), some (.d (.int m)), some q, some (.p μ.length), x4] (Bx (μ ++ [.dct (tk kvs)]) b ds k) = some (.ok (.nx, [some (.p b), some (.d (.int m)), some q, some (.p μ.length), x4']) (Bx (μ ++ [.dct (tk kvs')]) b ds j))
  | [], kvs, k, x4, hl, hn, ha => ⟨kvs, k, x4, by simpa using hl, hn, ha, rfl⟩
  | x :: r, kvs, k, x4, hl, hn, ha => by
    have hb : b < (μ ++ [Cell.dct (tk kvs)]).length := by simp; omega
    obtain ⟨v, j, hp, e1⟩ := hf (μ := μ ++ [.dct (tk kvs)]) k hb
    obtain ⟨s, hs, e2⟩ := name_ex (ds := ds) (k := j) hb
    have hl1 : kvs.length + 1 ≤ 3 := by simp at hl; omega
    have hlt := kput_len kvs s v
    obtain ⟨kvs', j', x', q1, q2, q3, q4⟩ := dict_loop h hf r (kput kvs s v) (j + 1) (some x) (by simp at hl; omega) (kput_nodup hn) (kput_all ha ⟨hs, hp⟩)
    refine ⟨kvs', j', x', q1, q2, q3, ?_⟩
    have hg := Bx_top (ds := ds) (k := j + 1) (c := .dct (tk kvs)) h
    have hset := Bx_topset (ds := ds) (k := j + 1) (c := .dct (tk kvs)) (c' := .dct (tk (kput kvs s v))) h
    have htk : (tk kvs).length < 16777216 := by unfold tk; rw [List.length_map]; omega
    have hsd : setD (Bx (μ ++ [.dct (tk kvs)]) b ds (j + 1)) (.p μ.length) (.d (.str s)) (.d v.D) = some (Bx (μ ++ [.dct (tk (kput kvs s v))]) b ds (j + 1)) := by
      simp only [setD, dctC, hg, keyOf]
      rw [if_pos htk, putT_eq, hset]
    simp only [forL, gN, mret, mbind, List.set_cons_succ, List.set_cons_zero, sPut, eOp, eVar, mof, slotT, List.getElem?_cons_succ, List.getElem?_cons_zero, eC, eDef, aCons, aNil, stp, rd, gI, e1, e2, hsd]
    exact q4
theorem vdict (h : b < μ.length) (h0 : ¬ m = 0) (h2 : ¬ drw ds k 8 < 2) (h4 : ¬ drw ds k 8 < 4) (h6 : drw ds k 8 < 6) (hf : ∀ {μ : Mu} (k : Nat), b < μ.length → ∃ v j, P v ∧ f [.p b, .d (.int (m - 1))] (Bx μ b ds k) = some (.ok (.d v.D) (Bx μ b ds j))) :
    ∃ kvs j, kvs.length ≤ 3 ∧ (kvs.map (·.1)).Nodup ∧ (∀ p ∈ kvs, p.1 ∈ kNames ∧ P p.2) ∧ gb f [.p b, .d (.int m)] (Bx μ b ds k) = some (.ok (.d (Vl.rc kvs).D) (Bx μ b ds j)) := by
  have hb : b < (μ ++ [Cell.dct (tk [])]).length := by simp; omega
  have e := draw_eq (ds := ds) (k := k + 1) (m := 4) hb (by omega)
  have l := drw_lo (ds := ds) (k := k + 1) (m := 4) (by omega)
  have u := drw_hi (ds := ds) (k := k + 1) (m := 4) (by omega)
  obtain ⟨n, hn, hr⟩ := rng_of l (by omega)
  obtain ⟨kvs, j, x', q1, q2, q3, q4⟩ := dict_loop h hf (q := .d (.int (drw ds k 8))) (rngL 0 n) [] (k + 1 + 1) none (by rw [rngL_len]; simp; omega) (by simp) (by simp)
  have hg := Bx_top (ds := ds) (k := j) (c := .dct (tk kvs)) h
  have hd : (Cell.dct (tk kvs)).data (Bx (μ ++ [.dct (tk kvs)]) b ds j) = some (.dct (Vl.Dk kvs)) := by simp [Cell.data, dKs_tk]
  have hset := Bx_topset (ds := ds) (k := j) (c := .dct (tk kvs)) (c' := .frz (.dct (Vl.Dk kvs))) h
  have hg2 := Bx_top (ds := ds) (k := j) (c := .frz (.dct (Vl.Dk kvs))) h
  have hfin : finMu (Bx μ b ds k) (Bx (μ ++ [.frz (.dct (Vl.Dk kvs))]) b ds j) (.d (.dct (Vl.Dk kvs))) = Bx μ b ds j := by
    rw [← Bx_app h]
    exact Bx_own
  have hend : sFz 3 (sRet (eVar 3)) [some (.p b), some (.d (.int m)), some (.d (.int (drw ds k 8))), some (.p μ.length), x'] (Bx (μ ++ [.dct (tk kvs)]) b ds j) = some (.ok (.ret (.d (.dct (Vl.Dk kvs))), [some (.p b), some (.d (.int m)), some (.d (.int (drw ds k 8))), some (.p μ.length), x']) (Bx (μ ++ [.frz (.dct (Vl.Dk kvs))]) b ds j)) := by
    have hz : fzAtN (Bx (μ ++ [.dct (tk kvs)]) b ds j) μ.length = some (Bx (μ ++ [.frz (.dct (Vl.Dk kvs))]) b ds j) := by
      simp only [fzAtN, hg, hd, Option.map_some, hset]
    simp [sFz, hz, fzAt, hg2]
  have hnew : eNew cDct0 [some (.p b), some (.d (.int m)), some (.d (.int (drw ds k 8))), none, none] (Bx μ b ds (k + 1)) = some (.ok (.p μ.length) (Bx (μ ++ [.dct (tk [])]) b ds (k + 1))) := by
    rw [← Bx_app h]
    simp [eNew, cDct0, nwC, Bx_len, tk]
  refine ⟨kvs, j, q1, q2, q3, fnB_fin (ρ := [some (.p b), some (.d (.int m)), some (.d (.int (drw ds k 8))), some (.p μ.length), x']) ?_ hfin⟩
  refine seq_asg (vdraw h _) (seq_pass (vcond h0 h2) (seq_pass ?_ (seq_hit ?_ (seq_asg hnew (seq_nx (for_eq ?_ q4) hend)))))
  · simp [h4]
  · simp [h6]
  · simp [iRg, e, hr]
theorem vtag (h : b < μ.length) (h0 : ¬ m = 0) (h2 : ¬ drw ds k 8 < 2) (h4 : ¬ drw ds k 8 < 4) (h6 : ¬ drw ds k 8 < 6) (hf : ∀ {μ : Mu} (k : Nat), b < μ.length → ∃ v j, P v ∧ f [.p b, .d (.int (m - 1))] (Bx μ b ds k) = some (.ok (.d v.D) (Bx μ b ds j))) :
    ∃ s v j, s ∈ kNames ∧ P v ∧ gb f [.p b, .d (.int m)] (Bx μ b ds k) = some (.ok (.d (Vl.tag s v).D) (Bx μ b ds j)) := by
  obtain ⟨s, hs, e1⟩ := name_ex (ds := ds) (k := k + 1) h
  obtain ⟨v, j, hp, e2⟩ := hf (μ := μ) (k + 1 + 1) h
  refine ⟨s, v, j, hs, hp, fnB_to (seq_asg (vdraw h _) (seq_pass (vcond h0 h2) (seq_pass ?_ (seq_pass ?_ (ret_eq ?_))))) Bx_fin⟩
  · simp [h4]
  · simp [h6]
  · simp [e1, e2, eTup, dTs, SL, Vl.D]
end
theorem value_ex {b : Nat} {ds : List Int} : ∀ (n : Nat) {μ : Mu} (k : Nat), b < μ.length → ∃ v j, Gn n v ∧ F__law_value (n + 1) [.p b, .d (.int n)] (Bx μ b ds k) = some (.ok (.d v.D) (Bx μ b ds j))
  | 0, μ, k, h => by
    obtain ⟨v, j, q1, q2⟩ := vbase (ds := ds) (k := k) (f := F__law_value 0) (m := 0) h (.inl rfl)
    exact ⟨v, j, q1, q2⟩
  | n + 1, μ, k, h => by
    have h0 : ¬ (((n + 1 : Nat)) : Int) = 0 := by omega
    have hf : ∀ {μ : Mu} (k : Nat), b < μ.length → ∃ v j, Gn n v ∧ F__law_value (n + 1) [.p b, .d (.int (((n + 1 : Nat) : Int) - 1))] (Bx μ b ds k) = some (.ok (.d v.D) (Bx μ b ds j)) := by
      intro μ k h
      have := value_ex (ds := ds) n (μ := μ) k h
      rwa [show (((n + 1 : Nat) : Int) - 1) = (n : Int) from by omega]
    by_cases h2 : drw ds k 8 < 2
    · obtain ⟨v, j, q1, q2⟩ := vbase (ds := ds) (k := k) (f := F__law_value (n + 1)) (m := ((n + 1 : Nat) : Int)) h (.inr h2)
      exact ⟨v, j, .inl q1, q2⟩
    · by_cases h4 : drw ds k 8 < 4
      · obtain ⟨xs, j, q1, q2, q3⟩ := vlist (ds := ds) (k := k) (f := F__law_value (n + 1)) (P := Gn n) h h0 h2 h4 hf
        exact ⟨_, j, .inr (.inl ⟨xs, rfl, q1, q2⟩), q3⟩
      · by_cases h6 : drw ds k 8 < 6
        · obtain ⟨kvs, j, q1, q2, q3, q4⟩ := vdict (ds := ds) (k := k) (f := F__law_value (n + 1)) (P := Gn n) h h0 h2 h4 h6 hf
          exact ⟨_, j, .inr (.inr (.inl ⟨kvs, rfl, q1, q2, q3⟩)), q4⟩
        · obtain ⟨s, v, j, q1, q2, q3⟩ := vtag (ds := ds) (k := k) (f := F__law_value (n + 1)) (P := Gn n) h h0 h2 h4 h6 hf
          exact ⟨_, j, .inr (.inr (.inr ⟨s, v, rfl, q1, q2⟩)), q3⟩
end Fm
set_option Elab.async false
set_option linter.all false
set_option maxRecDepth 100000
namespace Fm
open PySem L2 PySem.Spec PyProof.Rows
/-! ### the digits -/
theorem kl_at {μ : Mu} {ns : List Int} {k : Nat} (h : k < ns.length) : gIx μ (.d (.kl ns)) (.d (.int k)) = some (.d (.int ns[k])) := by
  have h' : k < (ns.map fun i => T.d (.int i)).length := by simpa using h
  simp only [gIx, gIx2, lstOf, ixT, atI_at h', Option.map_some]
  simp
theorem cell_ex {μ : Mu} (ns : List Int) (k : Nat) : ∃ i : Int, F__law_cell [.d (.kl ns), .d (.int k)] μ = some (.ok (.d (.int i)) μ) := by
  by_cases h : k < ns.length
  · refine ⟨ns[k], fnB_ret (seq_hit ?_ (ret_eq ?_))⟩
    · have : (k : Int) < (ns.length : Int) := by omega
      simp [eB, ofG, this]
    · simp [kl_at h]
  · refine ⟨0, fnB_ret (seq_pass ?_ (ret_eq ?_))⟩
    · have : ¬ (k : Int) < (ns.length : Int) := by omega
      simp [eB, ofG, this]
    · simp
def dg (ds : List Int) : Cell := .lst (ds.map fun i => T.d (.int i))
theorem dg_app {μ : Mu} {ds : List Int} {i : Int} (h : ds.length < 16777216) : gApp (.p μ.length) [.d (.int i)] (μ ++ [dg ds]) = some (.ok (.d .non) (μ ++ [dg (ds ++ [i])])) := by
  have e : dg (ds ++ [i]) = .lst ((ds.map fun i => T.d (.int i)) ++ [.d (.int i)]) := by simp [dg]
  have hg : (μ ++ [dg ds])[μ.length]? = some (.lst (ds.map fun i => T.d (.int i))) := app_get
  simp only [gApp, lstC, hg]
  rw [if_pos (by simpa using h), app_set, e]
theorem dg_y {μ : Mu} {ds : List Int} : yLst (μ ++ [dg ds]) (.p μ.length) = true := y_cell (xs := ds.map fun i => T.d (.int i)) app_get
theorem for_step {g : GF} {b : SF} {x : T} {r : List T} {ρ ρ1 ρ2 : Rho} {μ μ2 : Mu} {R : Option (Rs (Fl × Rho))} (hg : g x ρ μ = some (.ok ρ1 μ)) (hb : b ρ1 μ = some (.ok (.nx, ρ2) μ2)) (h : forL g b r ρ2 μ2 = R) : forL g b (x :: r) ρ μ = R := (mb_ok hg).trans ((mb_ok hb).trans h)
section
variable {μ : Mu} {x0 x1 x2 : T}
/-- the inner loops: the cell's own digits; digits from a seed -/
theorem own_loop {x7 : Option T} : ∀ (xs : List T) (ds : List Int) (c : Int) (x4 x6 : Option T), ds.length + xs.length ≤ 1000000 →
    ∃ ds' c' x6', ds'.length ≤ ds.length + xs.length ∧ forL (gN 6) (sIf (bE (eOp gGt (eVar 5) (eC (.int 0)))) (sSeq (sDrop (eBM yLst gApp (eVar 3) (aCons (eOp (gIc (fun _ j => decide (0 < j)) fun i j => .int (i % j)) (eB gInt (aCons (eVar 5) aNil)) (eC (.int 1000))) aNil)))
    (sAsg (eOp (gIc (fun _ j => decide (0 < j ∧ j < 1073741824)) fun i j => .int (i / j)) (eVar 5) (eC (.int 1000))) (gN 5))) sNx) xs [some x0, some x1, some x2, some (.p μ.length), x4, some (.d (.int c)), x6, x7] (μ ++ [dg ds]) = some (.ok (.nx, [some x0, some x1, some x2, some (.p μ.length), x4, some (.d (.int c')), x6', x7]) (μ ++ [dg ds']))
  | [], ds, c, x4, x6, _ => ⟨ds, c, x6, by simp, rfl⟩
  | x :: r, ds, c, x4, x6, hl => by
    have hfz : fzAt (μ ++ [dg ds]) μ.length = none := app_fz
    simp only [List.length_cons] at hl
    by_cases h : 0 < c
    · obtain ⟨ds', c', x6', h1, h2⟩ := own_loop r (ds ++ [c % 1000]) (c / 1000) x4 (some x) (by simp; omega)
      refine ⟨ds', c', x6', by simp at h1 ⊢; omega, ?_⟩
      have a := dg_app (μ := μ) (ds := ds) (i := c % 1000) (by omega)
      have y := dg_y (μ := μ) (ds := ds)
      refine for_step (ρ1 := [some x0, some x1, some x2, some (.p μ.length), x4, some (.d (.int c)), some x, x7]) rfl ?_ h2
      simp [h, eBM, y, eB, ofG, gInt, a]
    · obtain ⟨ds', c', x6', h1, h2⟩ := own_loop r ds c x4 (some x) (by omega)
      refine ⟨ds', c', x6', by simp at h1 ⊢; omega, ?_⟩
      refine for_step (ρ1 := [some x0, some x1, some x2, some (.p μ.length), x4, some (.d (.int c)), some x, x7]) rfl ?_ h2
      simp [h]
theorem seed_loop {x5 : Option T} : ∀ (xs : List Int) (ds : List Int) (c : Int) (x4 x6 : Option T), ds.length + xs.length ≤ 1000000 →
    ∃ ds' c' x6', ds'.length ≤ ds.length + xs.length ∧ forL (gN 6) (sSeq (sAsg (eOp (gIc (fun _ j => decide (0 < j)) fun i j => .int (i % j)) (eB gInt (aCons (eOp gAdd (eOp gAdd (eOp (gIc cMul fun i j => .int (i * j)) (eVar 7) (eC (.int 16807))) (eOp (gIc cMul fun i j => .int (i * j)) (eC (.int 7)) (eVar 6))) (eC (.int 1))) aNil)) (eC (.int 2147483647))) (gN 7))
    (sDrop (eBM yLst gApp (eVar 3) (aCons (eOp (gIc (fun _ j => decide (0 < j)) fun i j => .int (i % j)) (eB gInt (aCons (eOp (gIc (fun _ j => decide (0 < j ∧ j < 1073741824)) fun i j => .int (i / j)) (eVar 7) (eC (.int 997))) aNil)) (eC (.int 1000))) aNil)))) (xs.map fun i => .d (.int i)) [some x0, some x1, some x2, some (.p μ.length), x4, x5, x6, some (.d (.int c))] (μ ++ [dg ds]) = some (.ok (.nx, [some x0, some x1, some x2, some (.p μ.length), x4, x5, x6', some (.d (.int c'))]) (μ ++ [dg ds']))
  | [], ds, c, x4, x6, _ => ⟨ds, c, x6, by simp, rfl⟩
  | x :: r, ds, c, x4, x6, hl => by
    have hfz : fzAt (μ ++ [dg ds]) μ.length = none := app_fz
    simp only [List.length_cons] at hl
    have m1 : ∀ i : Int, cMul i 16807 = true := fun i => by unfold cMul; simp
    have m2 : ∀ i : Int, cMul 7 i = true := fun i => by unfold cMul; simp
    obtain ⟨ds', c', x6', h1, h2⟩ := seed_loop (x5 := x5) r (ds ++ [(c * 16807 + 7 * x + 1) % 2147483647 / 997 % 1000]) ((c * 16807 + 7 * x + 1) % 2147483647) x4 (some (.d (.int x))) (by simp; omega)
    refine ⟨ds', c', x6', by simp at h1 ⊢; omega, ?_⟩
    have a := dg_app (μ := μ) (ds := ds) (i := (c * 16807 + 7 * x + 1) % 2147483647 / 997 % 1000) (by omega)
    have y := dg_y (μ := μ) (ds := ds)
    refine for_step (ρ1 := [some x0, some x1, some x2, some (.p μ.length), x4, x5, some (.d (.int x)), some (.d (.int c))]) rfl ?_ h2
    simp [eBM, y, eB, ofG, gInt, a, m1, m2, hfz]
end
theorem rngL_ints (lo : Int) (n : Nat) : ∃ is : List Int, rngL lo n = is.map fun i => T.d (.int i) := ⟨(List.range n).map fun (i : Nat) => lo + i, by simp [rngL, List.map_map, Function.comp_def]⟩
theorem dg_arg {μ : Mu} {x0 x1 x2 x3 : Option T} {x6 x7 : Option T} {c kk : Int} (m1 : cMul c 48271 = true) (m2 : cMul kk 69621 = true) : eOp gAdd (eOp gAdd (eOp (gIc cMul fun i j => .int (i * j)) (eVar 5) (eC (.int 48271))) (eOp (gIc cMul fun i j => .int (i * j)) (eVar 4) (eC (.int 69621)))) (eC (.int 11)) [x0, x1, x2, x3, some (.d (.int kk)), some (.d (.int c)), x6, x7] μ = some (.ok (.d (.int (c * 48271 + kk * 69621 + 11))) μ) := by
      simp [m1, m2]
theorem dg_seed {μ : Mu} {x0 x1 x2 x3 : Option T} {x6 x7 : Option T} {c kk : Int} {f : EF} {e : Int} (h : f [x0, x1, x2, x3, some (.d (.int kk)), some (.d (.int c)), x6, x7] μ = some (.ok (.d (.int e)) μ)) : sAsg (eOp (gIc (fun _ j => decide (0 < j)) fun i j => .int (i % j)) (eB gInt (aCons f aNil)) (eC (.int 2147483647))) (gN 7) [x0, x1, x2, x3, some (.d (.int kk)), some (.d (.int c)), x6, x7] μ = some (.ok (.nx, [x0, x1, x2, x3, some (.d (.int kk)), some (.d (.int c)), x6, some (.d (.int (e % 2147483647)))]) μ) := by
      simp [h, eB, ofG, gInt]
noncomputable def dgBody : SF := (sSeq (sAsg (eDef F__law_cell (aCons (eVar 0) (aCons (eVar 4) aNil))) (gN 5))
    (sSeq (sIf (bE (eOp gLt (eVar 5) (eC (.int 0)))) (sAsg (eOp (gI fun i j => .int (i - j)) (eC (.int 1)) (eOp (gIc cMul fun i j => .int (i * j)) (eC (.int 2)) (eVar 5))) (gN 5)) sNx)
    (sIf (bE (eOp gGe (eVar 5) (eOp (gIc (fun i j => decide (0 ≤ j ∧ j ≤ 1000000 ∧ i.natAbs < 2 ^ 64)) fun i j => .int (i ^ j.toNat)) (eC (.int 10)) (eC (.int 18))))) (sFor (iRg rng1 (aCons (eC (.int 60)) aNil)) (gN 6) (sIf (bE (eOp gGt (eVar 5) (eC (.int 0)))) (sSeq (sDrop (eBM yLst gApp (eVar 3) (aCons (eOp (gIc (fun _ j => decide (0 < j)) fun i j => .int (i % j)) (eB gInt (aCons (eVar 5) aNil)) (eC (.int 1000))) aNil)))
    (sAsg (eOp (gIc (fun _ j => decide (0 < j ∧ j < 1073741824)) fun i j => .int (i / j)) (eVar 5) (eC (.int 1000))) (gN 5))) sNx)) (sSeq (sAsg (eOp (gIc (fun _ j => decide (0 < j)) fun i j => .int (i % j)) (eB gInt (aCons (eOp gAdd (eOp gAdd (eOp (gIc cMul fun i j => .int (i * j)) (eVar 5) (eC (.int 48271))) (eOp (gIc cMul fun i j => .int (i * j)) (eVar 4) (eC (.int 69621)))) (eC (.int 11))) aNil)) (eC (.int 2147483647))) (gN 7))
    (sFor (iRg rng1 (aCons (eC (.int 12)) aNil)) (gN 6) (sSeq (sAsg (eOp (gIc (fun _ j => decide (0 < j)) fun i j => .int (i % j)) (eB gInt (aCons (eOp gAdd (eOp gAdd (eOp (gIc cMul fun i j => .int (i * j)) (eVar 7) (eC (.int 16807))) (eOp (gIc cMul fun i j => .int (i * j)) (eC (.int 7)) (eVar 6))) (eC (.int 1))) aNil)) (eC (.int 2147483647))) (gN 7))
    (sDrop (eBM yLst gApp (eVar 3) (aCons (eOp (gIc (fun _ j => decide (0 < j)) fun i j => .int (i % j)) (eB gInt (aCons (eOp (gIc (fun _ j => decide (0 < j ∧ j < 1073741824)) fun i j => .int (i / j)) (eVar 7) (eC (.int 997))) aNil)) (eC (.int 1000))) aNil)))))))))
theorem dg_body {μ : Mu} {ns : List Int} {x1 x2 : T} (ds : List Int) (k : Nat) (x5 x6 x7 : Option T) (hl : ds.length ≤ 900000) :
    ∃ ds' x5' x6' x7', ds'.length ≤ ds.length + 60 ∧ dgBody [some (.d (.kl ns)), some x1, some x2, some (.p μ.length), some (.d (.int k)), x5, x6, x7] (μ ++ [dg ds]) = some (.ok (.nx, [some (.d (.kl ns)), some x1, some x2, some (.p μ.length), some (.d (.int k)), x5', x6', x7']) (μ ++ [dg ds'])) := by
  obtain ⟨c0, hc0⟩ := cell_ex (μ := μ ++ [dg ds]) ns k
  obtain ⟨c, hc⟩ : ∃ c : Int, sIf (bE (eOp gLt (eVar 5) (eC (.int 0)))) (sAsg (eOp (gI fun i j => .int (i - j)) (eC (.int 1)) (eOp (gIc cMul fun i j => .int (i * j)) (eC (.int 2)) (eVar 5))) (gN 5)) sNx [some (.d (.kl ns)), some x1, some x2, some (.p μ.length), some (.d (.int k)), some (.d (.int c0)), x6, x7] (μ ++ [dg ds]) = some (.ok (.nx, [some (.d (.kl ns)), some x1, some x2, some (.p μ.length), some (.d (.int k)), some (.d (.int c)), x6, x7]) (μ ++ [dg ds])) := by
    by_cases h : c0 < 0
    · have m : cMul 2 c0 = true := by unfold cMul; simp
      exact ⟨1 - 2 * c0, by simp [h, m]⟩
    · exact ⟨c0, by simp [h]⟩
  have h1 : sAsg (eDef F__law_cell (aCons (eVar 0) (aCons (eVar 4) aNil))) (gN 5) [some (.d (.kl ns)), some x1, some x2, some (.p μ.length), some (.d (.int k)), x5, x6, x7] (μ ++ [dg ds]) = some (.ok (.nx, [some (.d (.kl ns)), some x1, some x2, some (.p μ.length), some (.d (.int k)), some (.d (.int c0)), x6, x7]) (μ ++ [dg ds])) := by simp [hc0]
  unfold dgBody
  by_cases h : (1000000000000000000 : Int) ≤ c
  · obtain ⟨ds', c', x6', q1, q2⟩ := own_loop (μ := μ) (x0 := .d (.kl ns)) (x1 := x1) (x2 := x2) (x7 := x7) (rngL 0 60) ds c (some (.d (.int k))) x6 (by rw [rngL_len]; omega)
    rw [rngL_len] at q1
    refine ⟨ds', _, _, _, q1, seq_nx h1 (seq_nx hc (if_t (μ' := μ ++ [dg ds]) ?_ (for_eq ?_ q2)))⟩
    · simp [h]
    · simp [iRg, rng1]
  · obtain ⟨is, his⟩ := rngL_ints 0 12
    have hil : is.length = 12 := by have := congrArg List.length his; rw [rngL_len, List.length_map] at this; omega
    obtain ⟨ds', c', x6', q1, q2⟩ := seed_loop (μ := μ) (x0 := .d (.kl ns)) (x1 := x1) (x2 := x2) (x5 := some (.d (.int c))) is ds ((c * 48271 + k * 69621 + 11) % 2147483647) (some (.d (.int k))) x6 (by omega)
    refine ⟨ds', _, _, _, by omega, seq_nx h1 (seq_nx hc (if_f (μ' := μ ++ [dg ds]) ?_ (seq_nx (ρ' := [some (.d (.kl ns)), some x1, some x2, some (.p μ.length), some (.d (.int k)), some (.d (.int c)), x6, some (.d (.int ((c * 48271 + k * 69621 + 11) % 2147483647)))]) (μ' := μ ++ [dg ds]) ?_ (for_eq ?_ q2))))⟩
    · simp [h]
    · exact dg_seed (dg_arg (by unfold cMul; simp) (by unfold cMul; simp))
    · simp [iRg, rng1, his]
theorem dg_loop {μ : Mu} {ns : List Int} {x1 x2 : T} : ∀ (ks : List Nat) (ds : List Int) (x4 x5 x6 x7 : Option T), ds.length + 60 * ks.length ≤ 900000 →
    ∃ ds' ρ', forL (gN 4) dgBody (ks.map fun (k : Nat) => .d (.int k)) [some (.d (.kl ns)), some x1, some x2, some (.p μ.length), x4, x5, x6, x7] (μ ++ [dg ds]) = some (.ok (.nx, some (.d (.kl ns)) :: some x1 :: some x2 :: some (.p μ.length) :: ρ') (μ ++ [dg ds']))
  | [], ds, x4, x5, x6, x7, _ => ⟨ds, _, rfl⟩
  | k :: r, ds, x4, x5, x6, x7, hl => by
    simp only [List.length_cons] at hl
    obtain ⟨ds1, y5, y6, y7, q1, q2⟩ := dg_body (μ := μ) (ns := ns) (x1 := x1) (x2 := x2) ds k x5 x6 x7 (by omega)
    obtain ⟨ds', ρ', h⟩ := dg_loop (μ := μ) (ns := ns) (x1 := x1) (x2 := x2) r ds1 (some (.d (.int k))) y5 y6 y7 (by omega)
    exact ⟨ds', ρ', for_step rfl q2 h⟩
theorem digits_ex (ns : List Int) (μ : Mu) : ∃ ds : List Int, F__law_digits [.d (.kl ns), .d (.int 0), .d (.int 63)] μ = some (.ok (.d (.lst (ds.map D.int))) μ) := by
  obtain ⟨ds, ρ', h⟩ := dg_loop (μ := μ) (ns := ns) (x1 := .d (.int 0)) (x2 := .d (.int 63)) (List.range 63) [] none none none none (by simp)
  refine ⟨ds, fnB_own (z := [.frz (.lst (ds.map D.int))]) (ρ := some (.d (.kl ns)) :: some (.d (.int 0)) :: some (.d (.int 63)) :: some (.p μ.length) :: ρ') (seq_asg (y := .p μ.length) (μ' := μ ++ [dg []]) ?_ (seq_nx (for_eq (μ' := μ ++ [dg []]) ?_ h) ?_))⟩
  · simp [eNew, cLst, nwC, dg]
  · simp [iRg, rng2, rngL]
  · have hd : (dg ds).data (μ ++ [dg ds]) = some (.lst (ds.map D.int)) := by
      have := dTs_d (μ ++ [dg ds]) (ds.map D.int)
      rw [List.map_map] at this
      show (dTs (μ ++ [dg ds]) (ds.map (T.d ∘ D.int))).map D.lst = _
      rw [this]
      rfl
    have hz : fzAtN (μ ++ [dg ds]) μ.length = some (μ ++ [.frz (.lst (ds.map D.int))]) := by
      have hg : (μ ++ [dg ds])[μ.length]? = some (dg ds) := app_get
      unfold fzAtN
      rw [hg]
      show (Cell.data _ _).map _ = _
      rw [hd, Option.map_some, app_set]
    simp [sFz, hz, fzAt]
end Fm
set_option Elab.async false
set_option linter.all false
set_option maxRecDepth 100000
namespace Fm
open PySem L2 PySem.Spec PyProof.Rows
/-! ### spoilt values -/
def SpOk (kind even : Int) (w : Vl) : Prop := w.Wf ∧ w.size ≤ 1000 ∧ w.isV = decide (even = 1) ∧ (kind < 6 → even = 0 → ∀ d, w.okd d = false)
def sgnS (k : Nat) : Str := match ("abcdefghi" : Str).cps.toList[k]? with
  | some c => ⟨#[c]⟩
  | none => ""
def recL (n : Nat) : List (Str × Vl) := (List.range n).foldl (fun kvs k => kput kvs (sgnS k) (.int k)) []
def nest : Nat → Vl
  | 0 => .int 0
  | n + 1 => .lst [nest n]
theorem sgnS_at {μ : Mu} {k : Nat} (h : k < 9) : gIx μ (.d (.str "abcdefghi")) (.d (.int k)) = some (.d (.str (sgnS k))) := by
  have hl : ("abcdefghi" : Str).length = 9 := by decide +kernel
  obtain ⟨c, hc, e⟩ := sign_at (μ := μ) (z := "abcdefghi") (i := k) (by omega) (by rw [hl]; omega) (by rw [hl]; decide)
  rw [e]
  have hc : ("abcdefghi" : Str).cps.toList[k]? = some c := hc
  unfold sgnS
  rw [hc]
theorem dct_put {ν : Mu} {kvs : List (Str × Vl)} {s : Str} {v : Vl} (h : kvs.length < 1000) : setD (ν ++ [.dct (tk kvs)]) (.p ν.length) (.d (.str s)) (.d v.D) = some (ν ++ [.dct (tk (kput kvs s v))]) := by
  have hg : (ν ++ [Cell.dct (tk kvs)])[ν.length]? = some (.dct (tk kvs)) := app_get
  have hl : (tk kvs).length < 16777216 := by unfold tk; rw [List.length_map]; omega
  simp only [setD, dctC, hg, keyOf]
  rw [if_pos hl, putT_eq, app_set]
theorem foldl_len : ∀ (ks : List Nat) (kvs : List (Str × Vl)), (ks.foldl (fun kvs k => kput kvs (sgnS k) (.int k)) kvs).length ≤ kvs.length + ks.length
  | [], kvs => by simp
  | k :: r, kvs => by
    have h1 := kput_len kvs (sgnS k) (.int k)
    have h2 := foldl_len r (kput kvs (sgnS k) (.int k))
    simp only [List.foldl_cons, List.length_cons]
    omega
theorem rec_loop {ν : Mu} {x0 x1 x2 x3 : Option T} : ∀ (ks : List Nat) (kvs : List (Str × Vl)) (x4 : Option T), (∀ k ∈ ks, k < 9) → kvs.length + ks.length ≤ 100 →
    ∃ x4', forL (gN 4) (sPut setD (eVar 4) (eVar 5) (eOp gIx (eC (.str "abcdefghi")) (eVar 4))) (ks.map fun (k : Nat) => .d (.int k)) [x0, x1, x2, x3, x4, some (.p ν.length)] (ν ++ [.dct (tk kvs)]) = some (.ok (.nx, [x0, x1, x2, x3, x4', some (.p ν.length)]) (ν ++ [.dct (tk (ks.foldl (fun kvs k => kput kvs (sgnS k) (.int k)) kvs))]))
  | [], kvs, x4, _, _ => ⟨x4, rfl⟩
  | k :: r, kvs, x4, hk, hl => by
    simp only [List.length_cons] at hl
    have h1 := kput_len kvs (sgnS k) (.int k)
    obtain ⟨x4', h⟩ := rec_loop r (kput kvs (sgnS k) (.int k)) (some (.d (.int k))) (fun j hj => hk j (List.mem_cons_of_mem _ hj)) (by omega)
    refine ⟨x4', for_step rfl ?_ h⟩
    have e1 := sgnS_at (μ := ν ++ [.dct (tk kvs)]) (hk k List.mem_cons_self)
    have e2 : setD (ν ++ [.dct (tk kvs)]) (.p ν.length) (.d (.str (sgnS k))) (.d (.int k)) = some (ν ++ [.dct (tk (kput kvs (sgnS k) (.int k)))]) := dct_put (v := .int k) (by omega)
    simp [sPut, e1, e2]
theorem rec_ints : ∀ (ks : List Nat) (kvs : List (Str × Vl)), (∀ p ∈ kvs, ∃ i, p.2 = .int i) → ∀ p ∈ ks.foldl (fun kvs k => kput kvs (sgnS k) (.int k)) kvs, ∃ i, p.2 = .int i
  | [], kvs, h => h
  | k :: r, kvs, h => rec_ints r _ (kput_all h ⟨_, rfl⟩)
theorem rec_wf (n : Nat) (hl : (recL n).length < 64) (hn : ((recL n).map (·.1)).Nodup) (hk : ∀ p ∈ recL n, p.1.length ≤ 1000) : (Vl.rc (recL n)).Wf := by
  refine ⟨hl, hn, Vl.Wfk_all.mpr fun p hp => ⟨hk p hp, ?_⟩⟩
  obtain ⟨i, e⟩ := rec_ints (List.range n) [] (by simp) p hp
  rw [e]
  trivial
theorem rec_9 : (Vl.rc (recL 9)).Wf ∧ (Vl.rc (recL 9)).size ≤ 1000 ∧ ∀ d, (Vl.rc (recL 9)).okd d = false := by
  have hl : (recL 9).length = 9 := by decide +kernel
  refine ⟨rec_wf 9 (by rw [hl]; decide) (by decide +kernel) (by decide +kernel), by decide +kernel, fun d => ?_⟩
  simp [Vl.okd, Vl.own, hl]
theorem rec_8 : (Vl.rc (recL 8)).Wf ∧ (Vl.rc (recL 8)).size ≤ 1000 ∧ (Vl.rc (recL 8)).isV = true := by
  have hl : (recL 8).length = 8 := by decide +kernel
  exact ⟨rec_wf 8 (by rw [hl]; decide) (by decide +kernel) (by decide +kernel), by decide +kernel, by decide +kernel⟩
theorem nest_wf : ∀ n, (nest n).Wf
  | 0 => trivial
  | n + 1 => ⟨by simp, nest_wf n, trivial⟩
theorem isV_of {w : Vl} (h : ∀ d, w.okd d = false) : w.isV = false := by unfold Vl.isV; rw [h 0]; rfl
section
variable {μ : Mu} {b : Nat} {ds : List Int} {k : Nat} {even : Int}
/-- what the law's spoilt value of a kind is -/
def SpE (μ : Mu) (b : Nat) (ds : List Int) (k : Nat) (kind even : Int) : Prop := ∃ w j, SpOk kind even w ∧ F__law_spoilt [.p b, .d (.int kind), .d (.int even)] (Bx μ b ds k) = some (.ok (.d w.D) (Bx μ b ds j))
theorem sp_0 (h : b < μ.length) (he : even = 0 ∨ even = 1) : SpE μ b ds k 0 even := by
  have e := draw_eq (ds := ds) (k := k) (m := 2) h (by omega)
  have l := drw_lo (ds := ds) (k := k) (m := 2) (by omega)
  have u := drw_hi (ds := ds) (k := k) (m := 2) (by omega)
  obtain ⟨s, hs, hx⟩ : ∃ s : Int, (s = 1 ∨ s = -1) ∧ ∀ ν, gIx ν (.d (.lst [.int 1, .int (-1)])) (.d (.int (drw ds k 2))) = some (.d (.int s)) := by
    have h01 : drw ds k 2 = 0 ∨ drw ds k 2 = 1 := by omega
    rcases h01 with q | q
    · exact ⟨1, .inl rfl, fun ν => by simp [q, gIx, gIx2, lstOf, ixT]⟩
    · exact ⟨-1, .inr rfl, fun ν => by simp [q, gIx, gIx2, lstOf, ixT]⟩
  have hz := Bx_fz (ds := ds) (k := k) h
  refine ⟨.int ((1000001 - even) * s), k + 1, ⟨trivial, by simp [Vl.size], ?_, ?_⟩, fnB_to (seq_hit ?_ (ret_eq ?_)) Bx_fin⟩
  · rcases he with q | q <;> rcases hs with z | z <;> subst q <;> subst z <;> decide +kernel
  · intro _ q d
    rcases hs with z | z <;> subst q <;> subst z <;> rfl
  · simp
  · have m1 : cMul (1000001 - even) s = true := by
      have : s < 2 ^ 64 ∧ -(2 ^ 64) < s := by omega
      unfold cMul
      simp only [Bool.or_eq_true, decide_eq_true_eq]
      exact .inr ⟨this.2, this.1⟩
    simp [eFz, cLst, fzC, Cell.data, dTs, SL, e, hx, m1, Vl.D, eNeg, negT]
theorem sp_1 (h : b < μ.length) (he : even = 0 ∨ even = 1) : SpE μ b ds k 1 even := by
  rcases he with q | q
  · subst q
    refine ⟨.str "aaaaaaaaaaaaaaaaaaaaa", k, ⟨by (show Str.length _ ≤ 1000; decide +kernel), by decide +kernel, by decide +kernel, fun _ _ d => ?_⟩, fnB_to (seq_pass ?_ (seq_hit ?_ (ret_eq ?_))) Bx_fin⟩
    · rw [Vl.okd]; decide +kernel
    · simp
    · simp
    · have : cutS "aaaaaaaaaaaaaaaaaaaaa" none (some 21) = "aaaaaaaaaaaaaaaaaaaaa" := by decide +kernel
      have hl : ("aaaaaaaaaaaaaaaaaaaaa" : Str).length ≤ 16777216 := by decide +kernel
      simp [eSlS, oNone, oSome, iOf, slS, hl, this, Vl.D]
  · subst q
    refine ⟨.str "aaaaaaaaaaaaaaaaaaaa", k, ⟨by (show Str.length _ ≤ 1000; decide +kernel), by decide +kernel, by decide +kernel, by omega⟩, fnB_to (seq_pass ?_ (seq_hit ?_ (ret_eq ?_))) Bx_fin⟩
    · simp
    · simp
    · have : cutS "aaaaaaaaaaaaaaaaaaaaa" none (some 20) = "aaaaaaaaaaaaaaaaaaaa" := by decide +kernel
      have hl : ("aaaaaaaaaaaaaaaaaaaaa" : Str).length ≤ 16777216 := by decide +kernel
      simp [eSlS, oNone, oSome, iOf, slS, hl, this, Vl.D]
theorem pick4 (h : b < μ.length) (he : even = 0 ∨ even = 1) (s0 s1 s2 s3 : Str) : ∃ s, ((even = 1 ∧ s = s0) ∨ (even = 0 ∧ (s = s1 ∨ s = s2 ∨ s = s3))) ∧ ∀ ν : Mu, gIx ν (.d (.lst [.str s0, .str s1, .str s2, .str s3])) (.d (.int ((1 - even) * (1 + drw ds k 3)))) = some (.d (.str s)) := by
  have l := drw_lo (ds := ds) (k := k) (m := 3) (by omega)
  have u := drw_hi (ds := ds) (k := k) (m := 3) (by omega)
  rcases he with q | q
  · subst q
    have h3 : drw ds k 3 = 0 ∨ drw ds k 3 = 1 ∨ drw ds k 3 = 2 := by omega
    rcases h3 with z | z | z
    · exact ⟨s1, .inr ⟨rfl, .inl rfl⟩, fun ν => by rw [z]; rfl⟩
    · exact ⟨s2, .inr ⟨rfl, .inr (.inl rfl)⟩, fun ν => by rw [z]; rfl⟩
    · exact ⟨s3, .inr ⟨rfl, .inr (.inr rfl)⟩, fun ν => by rw [z]; rfl⟩
  · subst q
    refine ⟨s0, .inl ⟨rfl, rfl⟩, fun ν => ?_⟩
    rw [show (1 - (1 : Int)) * (1 + drw ds k 3) = 0 from by simp]
    rfl
theorem cmul_small {i j : Int} (h : -100 < i) (h' : i < 100) : cMul i j = true := by
  unfold cMul
  have : -(2 ^ 64) < i ∧ i < 2 ^ 64 := by omega
  simp only [Bool.or_eq_true, decide_eq_true_eq]
  exact .inl this
theorem sp_2 (h : b < μ.length) (he : even = 0 ∨ even = 1) : SpE μ b ds k 2 even := by
  have e := draw_eq (ds := ds) (k := k) (m := 3) h (by omega)
  have hz := Bx_fz (ds := ds) (k := k) h
  obtain ⟨s, hs, hx⟩ := pick4 (ds := ds) (k := k) h he "a" "aB" "a_" "a b"
  have m1 : cMul (1 - even) (1 + drw ds k 3) = true := cmul_small (by omega) (by omega)
  have hf : F__law_spoilt [.p b, .d (.int 2), .d (.int even)] (Bx μ b ds k) = some (.ok (.d (Vl.str s).D) (Bx μ b ds (k + 1))) := by
    refine fnB_to (seq_pass ?_ (seq_pass ?_ (seq_hit ?_ (ret_eq ?_)))) Bx_fin
    · simp
    · simp
    · simp
    · simp [eFz, cLst, fzC, Cell.data, dTs, SL, hz, e, m1, hx, Vl.D]
  rcases hs with ⟨q, z⟩ | ⟨q, z | z | z⟩
  all_goals subst q; subst z
  · exact ⟨_, _, ⟨by (show Str.length _ ≤ 1000; decide +kernel), by decide +kernel, by decide +kernel, by omega⟩, hf⟩
  · exact ⟨_, _, ⟨by (show Str.length _ ≤ 1000; decide +kernel), by decide +kernel, by decide +kernel, fun _ _ d => by rw [Vl.okd]; decide +kernel⟩, hf⟩
  · exact ⟨_, _, ⟨by (show Str.length _ ≤ 1000; decide +kernel), by decide +kernel, by decide +kernel, fun _ _ d => by rw [Vl.okd]; decide +kernel⟩, hf⟩
  · exact ⟨_, _, ⟨by (show Str.length _ ≤ 1000; decide +kernel), by decide +kernel, by decide +kernel, fun _ _ d => by rw [Vl.okd]; decide +kernel⟩, hf⟩
theorem sp_3 (h : b < μ.length) (he : even = 0 ∨ even = 1) : SpE μ b ds k 3 even := by
  obtain ⟨s, n, hn, hs, hc⟩ : ∃ (s : Str) (n : Int), 9 - even = n ∧ ((even = 0 ∧ s = "abcdefghi") ∨ (even = 1 ∧ s = "abcdefgh")) ∧ cutS "abcdefghi" none (some n) = s := by
    rcases he with q | q
    · exact ⟨_, 9, by omega, .inl ⟨q, rfl⟩, by decide +kernel⟩
    · exact ⟨_, 8, by omega, .inr ⟨q, rfl⟩, by decide +kernel⟩
  have hl : ("abcdefghi" : Str).length ≤ 16777216 := by decide +kernel
  have hf : F__law_spoilt [.p b, .d (.int 3), .d (.int even)] (Bx μ b ds k) = some (.ok (.d (Vl.rc [(s, .int 1)]).D) (Bx μ b ds k)) := by
    refine fnB_to (seq_pass ?_ (seq_pass ?_ (seq_pass ?_ (seq_hit ?_ (ret_eq ?_))))) Bx_fin
    · simp
    · simp
    · simp
    · simp
    · simp [eFz, cDisp, ppC, ppN, eSlS, oNone, oSome, iOf, slS, hl, hn, hc, keyed, keyOf, mergeT, putT, fzC, Cell.data, dKs, Vl.D, Vl.Dk]
  rcases hs with ⟨q, z⟩ | ⟨q, z⟩
  all_goals subst q; subst z
  · refine ⟨.rc [("abcdefghi", .int 1)], _, ⟨⟨by decide, by simp, by (show Str.length _ ≤ 1000; decide +kernel), trivial, trivial⟩, by decide +kernel, by decide +kernel, fun _ _ d => ?_⟩, hf⟩
    have : (Vl.rc [("abcdefghi", .int 1)]).own = false := by decide +kernel
    rw [Vl.okd, this]
    rfl
  · exact ⟨.rc [("abcdefgh", .int 1)], _, ⟨⟨by decide, by simp, by (show Str.length _ ≤ 1000; decide +kernel), trivial, trivial⟩, by decide +kernel, by decide +kernel, by omega⟩, hf⟩
theorem rng_eq {j : Int} {n : Nat} (e : j = n) (h : n < 1000000) : rng1 [.d (.int j)] = some ((List.range n).map fun (k : Nat) => T.d (.int k)) := by
  have hr : -(2 ^ 62) ≤ j ∧ j < 2 ^ 62 := by omega
  have e2 : j.toNat = n := by omega
  simp only [rng1]
  rw [if_pos hr, e2]
  simp [rngL]
theorem sp_4 (h : b < μ.length) (he : even = 0 ∨ even = 1) : SpE μ b ds k 4 even := by
  obtain ⟨n, hn, hne⟩ : ∃ n : Nat, 9 - even = n ∧ ((even = 0 ∧ n = 9) ∨ (even = 1 ∧ n = 8)) := by
    rcases he with q | q
    · exact ⟨9, by omega, .inl ⟨q, rfl⟩⟩
    · exact ⟨8, by omega, .inr ⟨q, rfl⟩⟩
  have hlen : (Bx μ b ds k).length = μ.length := Bx_len
  have hf : F__law_spoilt [.p b, .d (.int 4), .d (.int even)] (Bx μ b ds k) = some (.ok (.d (Vl.rc (recL n)).D) (Bx μ b ds k)) := by
    obtain ⟨x4', hlp⟩ := rec_loop (ν := Bx μ b ds k) (x0 := some (.p b)) (x1 := some (.d (.int 4))) (x2 := some (.d (.int even))) (x3 := none) (List.range n) [] none (by intro j hj; have := List.mem_range.mp hj; omega) (by simp; omega)
    have hg : (Bx μ b ds k ++ [Cell.dct (tk (recL n))])[(Bx μ b ds k).length]? = some (.dct (tk (recL n))) := app_get
    have hd : (Cell.dct (tk (recL n))).data (Bx μ b ds k ++ [.dct (tk (recL n))]) = some (.dct (Vl.Dk (recL n))) := by simp [Cell.data, dKs_tk]
    have hzz : fzAtN (Bx μ b ds k ++ [.dct (tk (recL n))]) (Bx μ b ds k).length = some (Bx μ b ds k ++ [.frz (.dct (Vl.Dk (recL n)))]) := by
      simp only [fzAtN, hg, hd, Option.map_some, app_set]
    refine fnB_own (z := [.frz (.dct (Vl.Dk (recL n)))]) (seq_pass ?_ (seq_pass ?_ (seq_pass ?_ (seq_pass ?_ (seq_hit (y := .d (.dct (Vl.Dk (recL n)))) (μ' := Bx μ b ds k ++ [.frz (.dct (Vl.Dk (recL n)))]) (ρ' := [some (.p b), some (.d (.int 4)), some (.d (.int even)), none, x4', some (.p (Bx μ b ds k).length)]) ?_ (seq_asg (y := .p (Bx μ b ds k).length) (μ' := Bx μ b ds k ++ [.dct (tk [])]) ?_ (seq_nx (for_eq (μ' := Bx μ b ds k ++ [.dct (tk [])]) ?_ hlp) ?_)))))))
    · simp
    · simp
    · simp
    · simp
    · simp
    · simp [eNew, cDct0, nwC, tk]
    · simp [iRg, rng_eq hn (by omega)]
    · show sFz 5 (sRet (eVar 5)) _ (Bx μ b ds k ++ [.dct (tk (recL n))]) = _
      simp [sFz, hzz, fzAt]
  rcases hne with ⟨q, z⟩ | ⟨q, z⟩
  all_goals subst q; subst z
  · exact ⟨_, _, ⟨rec_9.1, rec_9.2.1, isV_of rec_9.2.2, fun _ _ => rec_9.2.2⟩, hf⟩
  · exact ⟨_, _, ⟨rec_8.1, rec_8.2.1, rec_8.2.2, by omega⟩, hf⟩
theorem sp_5 (h : b < μ.length) (he : even = 0 ∨ even = 1) : SpE μ b ds k 5 even := by
  have e := draw_eq (ds := ds) (k := k) (m := 3) h (by omega)
  have hz := Bx_fz (ds := ds) (k := k) h
  obtain ⟨s, hs, hx⟩ := pick4 (ds := ds) (k := k) h he "t" "T" "9t" ""
  have m1 : cMul (1 - even) (1 + drw ds k 3) = true := cmul_small (by omega) (by omega)
  have hf : F__law_spoilt [.p b, .d (.int 5), .d (.int even)] (Bx μ b ds k) = some (.ok (.d (Vl.tag s (.int 0)).D) (Bx μ b ds (k + 1))) := by
    refine fnB_to (seq_pass ?_ (seq_pass ?_ (seq_pass ?_ (seq_pass ?_ (seq_pass ?_ (seq_hit ?_ (ret_eq ?_))))))) Bx_fin
    · simp
    · simp
    · simp
    · simp
    · simp
    · simp
    · simp [eTup, eFz, cLst, fzC, Cell.data, dTs, SL, hz, e, m1, hx, Vl.D]
  rcases hs with ⟨q, z⟩ | ⟨q, z | z | z⟩
  all_goals subst q; subst z
  · exact ⟨.tag _ (.int 0), _, ⟨⟨by (show Str.length _ ≤ 1000; decide +kernel), trivial⟩, by decide +kernel, by decide +kernel, by omega⟩, hf⟩
  · exact ⟨.tag _ (.int 0), _, ⟨⟨by (show Str.length _ ≤ 1000; decide +kernel), trivial⟩, by decide +kernel, by decide +kernel, fun _ _ d => by rw [Vl.okd, show isNm "T" = false from by decide +kernel]; rfl⟩, hf⟩
  · exact ⟨.tag _ (.int 0), _, ⟨⟨by (show Str.length _ ≤ 1000; decide +kernel), trivial⟩, by decide +kernel, by decide +kernel, fun _ _ d => by rw [Vl.okd, show isNm "9t" = false from by decide +kernel]; rfl⟩, hf⟩
  · exact ⟨.tag _ (.int 0), _, ⟨⟨by (show Str.length _ ≤ 1000; decide +kernel), trivial⟩, by decide +kernel, by decide +kernel, fun _ _ d => by rw [Vl.okd, show isNm "" = false from by decide +kernel]; rfl⟩, hf⟩
theorem zeros_size : ∀ n, Vl.sizes (List.replicate n (Vl.int 0)) = n
  | 0 => rfl
  | n + 1 => by rw [List.replicate_succ, Vl.sizes, zeros_size n, Vl.size]; omega
theorem zeros_ok (d : Nat) : ∀ n, Vl.okds d (List.replicate n (Vl.int 0)) = true
  | 0 => rfl
  | n + 1 => by rw [List.replicate_succ, Vl.okds, zeros_ok d n]; rfl
theorem sp_6 (h : b < μ.length) (he : even = 0 ∨ even = 1) : SpE μ b ds k 6 even := by
  obtain ⟨n, hn, hne⟩ : ∃ n : Nat, 300 - even = n ∧ ((even = 0 ∧ n = 300) ∨ (even = 1 ∧ n = 299)) := by
    rcases he with q | q
    · exact ⟨300, by omega, .inl ⟨q, rfl⟩⟩
    · exact ⟨299, by omega, .inr ⟨q, rfl⟩⟩
  have hr : (List.range n).map (fun _ => D.int 0) = Vl.Ds (List.replicate n (.int 0)) := by
    rw [Vl.Ds_map, List.map_replicate]
    exact List.eq_replicate_iff.mpr ⟨by simp, by simp [Vl.D]⟩
  refine ⟨.lst (List.replicate n (.int 0)), k, ⟨⟨by rw [List.length_replicate]; omega, Vl.Wfs_all.mpr fun v hv => by rw [List.eq_of_mem_replicate hv]; trivial⟩, by rw [Vl.size, zeros_size]; omega, ?_, by omega⟩, ?_⟩
  · unfold Vl.isV
    rw [Vl.okd, Vl.size, zeros_size, zeros_ok]
    rcases hne with ⟨q, z⟩ | ⟨q, z⟩ <;> subst q <;> subst z <;> rfl
  · rw [Vl.D, ← hr]
    refine fnB_to (seq_pass ?_ (seq_pass ?_ (seq_pass ?_ (seq_pass ?_ (seq_pass ?_ (seq_pass ?_ (seq_hit ?_ (ret_eq (cmp_eq (List.range n) (fun (k : Nat) => T.d (.int k)) (fun _ => D.int 0) ?_ ?_ ?_))))))))) Bx_fin
    · simp
    · simp
    · simp
    · simp
    · simp
    · simp
    · simp
    · simp [iRg, rng_eq hn (by omega)]
    · rw [List.length_range]; show _ ≤ 16777216; omega
    · exact fun a _ => ⟨_, rfl, rfl⟩
theorem nest_loop {ν : Mu} {x0 x1 x2 x5 : Option T} : ∀ (ks : List T) (m : Nat) (x4 : Option T), ∃ x4', forL (gN 4) (sAsg (eFz (cLst (aCons (eVar 3) aNil))) (gN 3)) ks [x0, x1, x2, some (.d (nest m).D), x4, x5] ν = some (.ok (.nx, [x0, x1, x2, some (.d (nest (m + ks.length)).D), x4', x5]) ν)
  | [], m, x4 => ⟨x4, rfl⟩
  | x :: r, m, x4 => by
    obtain ⟨x4', h⟩ := nest_loop (ν := ν) (x0 := x0) (x1 := x1) (x2 := x2) (x5 := x5) r (m + 1) (some x)
    rw [show m + 1 + r.length = m + (x :: r).length from by simp; omega] at h
    refine ⟨x4', for_step rfl ?_ h⟩
    simp [eFz, cLst, fzC, Cell.data, dTs, SL, nest, Vl.D, Vl.Ds]
theorem sp_7 (h : b < μ.length) (he : even = 0 ∨ even = 1) : SpE μ b ds k 7 even := by
  obtain ⟨n, hn, hne⟩ : ∃ n : Nat, 21 - even = n ∧ ((even = 0 ∧ n = 21) ∨ (even = 1 ∧ n = 20)) := by
    rcases he with q | q
    · exact ⟨21, by omega, .inl ⟨q, rfl⟩⟩
    · exact ⟨20, by omega, .inr ⟨q, rfl⟩⟩
  obtain ⟨x4', hlp⟩ := nest_loop (ν := Bx μ b ds k) (x0 := some (.p b)) (x1 := some (.d (.int 7))) (x2 := some (.d (.int even))) (x5 := none) ((List.range n).map fun (k : Nat) => T.d (.int k)) 0 none
  rw [List.length_map, List.length_range, Nat.zero_add] at hlp
  refine ⟨nest n, k, ⟨nest_wf n, ?_, ?_, by omega⟩, fnB_to (seq_pass ?_ (seq_pass ?_ (seq_pass ?_ (seq_pass ?_ (seq_pass ?_ (seq_pass ?_ (seq_pass ?_ (seq_asg rfl (seq_nx (for_eq (μ' := Bx μ b ds k) ?_ hlp) (ret_eq rfl)))))))))) Bx_fin⟩
  · rcases hne with ⟨q, z⟩ | ⟨q, z⟩ <;> subst z <;> decide +kernel
  · rcases hne with ⟨q, z⟩ | ⟨q, z⟩ <;> subst q <;> subst z <;> decide +kernel
  · simp
  · simp
  · simp
  · simp
  · simp
  · simp
  · simp
  · simp [iRg, rng_eq hn (by omega)]
theorem spoilt_ex (h : b < μ.length) {kind : Int} (hk : 0 ≤ kind) (hk' : kind < 8) (he : even = 0 ∨ even = 1) : SpE μ b ds k kind even := by
  have h8 : kind = 0 ∨ kind = 1 ∨ kind = 2 ∨ kind = 3 ∨ kind = 4 ∨ kind = 5 ∨ kind = 6 ∨ kind = 7 := by omega
  rcases h8 with q | q | q | q | q | q | q | q <;> subst q
  · exact sp_0 h he
  · exact sp_1 h he
  · exact sp_2 h he
  · exact sp_3 h he
  · exact sp_4 h he
  · exact sp_5 h he
  · exact sp_6 h he
  · exact sp_7 h he
end
end Fm
set_option Elab.async false
set_option linter.all false
set_option maxRecDepth 100000
namespace Fm
open PySem L2 PySem.Spec PyProof.Rows
/-! ### letters -/
def digs : Str := "0123456789"
def ltAt (cs : List Nat) (k : Nat) : Bool := match cs[k]? with
  | some c => isIn c alpha || (decide (1 ≤ k) && isIn c digs)
  | none => true
theorem alnum_or (c : Nat) : isIn c alnum = (isIn c alpha || isIn c digs) := by
  have e : alnum.cps.toList = alpha.cps.toList ++ digs.cps.toList := by decide +kernel
  unfold isIn
  rw [e, Bool.eq_iff_iff]
  simp only [Bool.or_eq_true, decide_eq_true_eq, List.mem_append]
theorem range_all (p : Nat → Bool) : ∀ (cs : List Nat) (f : Nat → Bool), (∀ k c, cs[k]? = some c → f k = p c) → (List.range cs.length).all f = cs.all p
  | [], f, _ => rfl
  | c :: r, f, h => by
    rw [List.length_cons, List.range_succ_eq_map, List.all_cons, List.all_map, List.all_cons, h 0 c rfl]
    congr 1
    exact range_all p r (f ∘ Nat.succ) fun k d hd => h (k + 1) d hd
theorem letters_nm (s : Str) : isNm s = (decide (1 ≤ s.length ∧ s.length ≤ 8) && (List.range s.length).all (ltAt s.cps.toList)) := by
  unfold isNm
  by_cases h : 1 ≤ s.length ∧ s.length ≤ 8
  · rw [decide_eq_true h, Bool.true_and, Bool.true_and, ← len_toList]
    unfold headIn only
    cases hq : s.cps.toList with
    | nil => rw [← len_toList, hq] at h; simp at h
    | cons c r =>
      rw [List.length_cons, List.range_succ_eq_map]
      show (isIn c alpha && (c :: r).all _) = _
      rw [List.all_cons, List.all_cons, List.all_map]
      have e := range_all (fun c => isIn c alnum) r (ltAt (c :: r) ∘ Nat.succ) fun k d hd => by
        have hd' : (c :: r)[k + 1]? = some d := hd
        show ltAt (c :: r) (k + 1) = _
        unfold ltAt
        rw [hd', alnum_or]
        simp
      rw [e]
      have e0 : ltAt (c :: r) 0 = isIn c alpha := by simp [ltAt]
      rw [e0, alnum_or]
      cases isIn c alpha <;> simp
  · rw [decide_eq_false h]
    rfl
def ltBody : SF := sIf (bAnd (bE (eOp (gInS true) (eOp gIx (eVar 0) (eVar 2)) (eC (.str "abcdefghijklmnopqrstuvwxyz")))) (bOr (bE (eOp gLt (eVar 2) (eVar 1))) (bE (eOp (gInS true) (eOp gIx (eVar 0) (eVar 2)) (eC (.str "0123456789")))))) (sRet (eC (.bl false))) sNx
theorem for_ret {g : GF} {b : SF} {x y : T} {r : List T} {ρ ρ1 ρ2 : Rho} {μ μ2 : Mu} (hg : g x ρ μ = some (.ok ρ1 μ)) (hb : b ρ1 μ = some (.ok (.ret y, ρ2) μ2)) : forL g b (x :: r) ρ μ = some (.ok (.ret y, ρ2) μ2) := (mb_ok hg).trans ((mb_ok hb).trans rfl)
theorem lt_loop {s : Str} (hs : s.length ≤ SL) {μ : Mu} : ∀ (ks : List Nat) (x2 : Option T), (∀ k ∈ ks, k < s.length) → ∃ x2', forL (gN 2) ltBody (ks.map fun (k : Nat) => .d (.int k)) [some (.d (.str s)), some (.d (.int 1)), x2] μ = some (.ok (if ks.all (ltAt s.cps.toList) = true then .nx else .ret (.d (.bl false)), [some (.d (.str s)), some (.d (.int 1)), x2']) μ)
  | [], x2, _ => ⟨x2, rfl⟩
  | k :: r, x2, hk => by
    have hk0 := hk k List.mem_cons_self
    obtain ⟨c, hc, e⟩ := sign_at (μ := μ) (z := s) (i := k) (by omega) (by omega) hs
    have hc : s.cps.toList[k]? = some c := hc
    have ea : isIn c (Str.ofString "abcdefghijklmnopqrstuvwxyz") = isIn c alpha := rfl
    have ed : isIn c (Str.ofString "0123456789") = isIn c digs := rfl
    have hlt : ltAt s.cps.toList k = (isIn c alpha || (decide (1 ≤ k) && isIn c digs)) := by unfold ltAt; rw [hc]
    have h1 : ((k : Int) < 1) ↔ ¬ 1 ≤ k := by omega
    cases hv : ltAt s.cps.toList k
    · refine ⟨some (.d (.int k)), ?_⟩
      rw [List.all_cons, hv]
      refine for_ret (ρ1 := [some (.d (.str s)), some (.d (.int 1)), some (.d (.int k))]) rfl (if_t (μ' := μ) ?_ rfl)
      rw [hlt] at hv
      simp only [Bool.or_eq_false_iff] at hv
      cases h0 : decide (1 ≤ k)
      · have h0' := of_decide_eq_false h0
        simp [e, in_1, ea, hv.1, h1.mpr h0']
      · rw [h0] at hv
        have h0' : ¬ (k : Int) < 1 := fun z => h1.mp z (of_decide_eq_true h0)
        simp [e, in_1, ea, ed, hv.1, h0', show isIn c digs = false from by simpa using hv.2]
    · obtain ⟨x2', h⟩ := lt_loop hs r (some (.d (.int k))) fun j hj => hk j (List.mem_cons_of_mem _ hj)
      refine ⟨x2', ?_⟩
      rw [List.all_cons, hv, Bool.true_and]
      refine for_step (ρ1 := [some (.d (.str s)), some (.d (.int 1)), some (.d (.int k))]) rfl (if_f (μ' := μ) ?_ rfl) h
      rw [hlt] at hv
      cases ha : isIn c alpha
      · rw [ha] at hv
        simp only [Bool.false_or, Bool.and_eq_true] at hv
        have h0' : ¬ (k : Int) < 1 := fun z => h1.mp z (of_decide_eq_true hv.1)
        simp [e, in_1, ea, ed, ha, h0', hv.2]
      · simp [e, in_1, ea, ha]
theorem irg_eq {j : Int} {n : Nat} (hj : j = n) (hn : n < 1000000) {μ μ' : Mu} {e : EF} {ρ : Rho} (he : e ρ μ = some (.ok (.d (.int j)) μ')) : iRg rng1 (aCons e aNil) ρ μ = some (.ok ((List.range n).map fun (k : Nat) => T.d (.int k)) μ') := by
  have h := rng_eq hj hn
  clear hj
  simp [iRg, he, h]
theorem letters_eq {s : Str} (hs : s.length ≤ 1000) (μ : Mu) : F__law_letters [.d (.str s), .d (.int 1)] μ = some (.ok (.d (.bl ((List.range s.length).all (ltAt s.cps.toList)))) μ) := by
  have hl : s.length ≤ 16777216 := by omega
  obtain ⟨x, h⟩ := lt_loop (s := s) hl (μ := μ) (List.range s.length) none fun k hk => List.mem_range.mp hk
  have hr : iRg rng1 (aCons (eB gLen (aCons (eVar 0) aNil)) aNil) [some (.d (.str s)), some (.d (.int 1)), none] μ = some (.ok ((List.range s.length).map fun (k : Nat) => T.d (.int k)) μ) := by
    exact irg_eq (j := s.length) rfl (by omega) (by simp [eB, ofG, len_str, hl])
  cases hv : (List.range s.length).all (ltAt s.cps.toList)
  · rw [hv] at h
    exact fnB_ret (seq_ret (for_eq hr h))
  · rw [hv] at h
    exact fnB_ret (seq_nx (for_eq hr h) rfl)
theorem fnB_any {N : Nat} {f : SF} {xs : List T} {ρ : Rho} {x : D} {μ μ' : Mu} (h : f (xs.map some ++ List.replicate (N - xs.length) none) μ = some (.ok (.ret (.d x), ρ) μ')) : ∃ μ'', fnB N f xs μ = some (.ok (.d x) μ'') := ⟨_, by
  unfold fnB
  rw [h]⟩
end Fm
set_option Elab.async false
set_option linter.all false
set_option maxRecDepth 100000
namespace Fm
open PySem L2 PySem.Spec PyProof.Rows
@[simp] theorem kit_id2 : kitB "int" "dict" = some false := by decide +kernel
@[simp] theorem kit_sd2 : kitB "str" "dict" = some false := by decide +kernel
@[simp] theorem kit_il2 : kitB "int" "list" = some false := by decide +kernel
@[simp] theorem kit_sl2 : kitB "str" "list" = some false := by decide +kernel
@[simp] theorem kit_it2 : kitB "int" "tuple" = some false := by decide +kernel
@[simp] theorem kit_st2 : kitB "str" "tuple" = some false := by decide +kernel
@[simp] theorem kit_bs2 : kitB "bool" "str" = some false := by decide +kernel
@[simp] theorem kit_bl2 : kitB "bool" "list" = some false := by decide +kernel
@[simp] theorem kit_bd2 : kitB "bool" "dict" = some false := by decide +kernel
@[simp] theorem kit_bt2 : kitB "bool" "tuple" = some false := by decide +kernel
section
variable {f g : SF} {c : TF} {e fa fb : EF} {ρ ρ' : Rho} {μ μ' μ1 μ2 : Mu} {x y z : T} {g2 : G2}
theorem op_eq' (ha : fa ρ μ = some (.ok x μ1)) (hb : fb ρ μ1 = some (.ok y μ2)) (hg : g2 μ2 (rd μ2 x) (rd μ2 y) = some z) : eOp g2 fa fb ρ μ = some (.ok z μ2) := by
  show mbind (fa ρ) _ μ = _
  rw [mb_ok ha]
  show mbind (fb ρ) _ μ1 = _
  rw [mb_ok hb]
  simp only [stp, mof, hg]
theorem be_eq {b : Bool} (h : e ρ μ = some (.ok (.d (.bl b)) μ')) : bE e ρ μ = some (.ok b μ') := by
  show mbind (e ρ) _ μ = _
  rw [mb_ok h]
  rfl
@[simp] theorem gEq_ii {n : Bool} {i j : Int} : gEq n μ (.d (.int i)) (.d (.int j)) = some (.d (.bl (if n then !decide (i = j) else decide (i = j)))) := by
  simp [gEq]
@[simp] theorem gEq_ss {n : Bool} {i j : Str} : gEq n μ (.d (.str i)) (.d (.str j)) = some (.d (.bl (if n then !decide (i = j) else decide (i = j)))) := by
  simp [gEq]
@[simp] theorem gEq_bb {n : Bool} {i j : Bool} : gEq n μ (.d (.bl i)) (.d (.bl j)) = some (.d (.bl (if n then !decide (i = j) else decide (i = j)))) := by
  simp [gEq]
end
end Fm
set_option Elab.async false
set_option linter.all false
set_option maxRecDepth 100000
namespace Fm
open PySem L2 PySem.Spec PyProof.Rows
/-- size_of -/
noncomputable def b_size_of (f__own_size f_parts_of : FN) : SF := (sSeq (sAsg (eC (.int 0)) (gN 1))
    (sSeq (sAsg (eNew (cLst (aCons (eVar 0) aNil))) (gN 2))
    (sSeq (sWhile (bT (eVar 2)) (sSeq (sAsg (eBM yLst gPop (eVar 2) aNil) (gN 3))
    (sSeq (sAug 1 gAdd (eDef f__own_size (aCons (eVar 3) aNil)))
    (sDrop (eBM yLst gExt (eVar 2) (aCons (eDef f_parts_of (aCons (eVar 3) aNil)) aNil))))))
    (sRet (eVar 1)))))
noncomputable def F_size_of : FN := fnB 4 (b_size_of (F__own_size) (F_parts_of))
/-- depth_of -/
noncomputable def b_depth_of (f__has_depth f_parts_of : FN) : SF := (sSeq (sAsg (eC (.int 0)) (gN 1))
    (sSeq (sAsg (eIf (bT (eDef f__has_depth (aCons (eVar 0) aNil))) (eFz (cLst (aCons (eVar 0) aNil))) (eFz (cLst aNil))) (gN 2))
    (sSeq (sWhile (bT (eVar 2)) (sSeq (sAug 1 gAdd (eC (.int 1)))
    (sAsg (eFz (cComp2 [3, 4] [4] (iLst (eVar 2)) (gN 3) bTrue (iLst (eDef f_parts_of (aCons (eVar 3) aNil))) (gN 4) (bT (eDef f__has_depth (aCons (eVar 4) aNil))) (eVar 4))) (gN 2))))
    (sRet (eVar 1)))))
noncomputable def F_depth_of : FN := fnB 5 (b_depth_of (F__has_depth) (F_parts_of))
/-- _law_depth -/
def b__law_depth (f__law_parts f__law_rank f__law_depth : FN) : SF := (sSeq (sAsg (eC (.int 0)) (gN 1))
    (sSeq (sIf (bE (eOp gGt (eDef f__law_rank (aCons (eVar 0) aNil)) (eC (.int 1)))) (sAsg (eC (.int 1)) (gN 1)) sNx)
    (sSeq (sFor (iLst (eDef f__law_parts (aCons (eVar 0) aNil))) (gN 2) (sAsg (eB gMax (aCons (eVar 1) (aCons (eOp gAdd (eC (.int 1)) (eDef f__law_depth (aCons (eVar 2) aNil))) aNil))) (gN 1)))
    (sRet (eVar 1)))))
noncomputable def F__law_depth : Nat → FN
  | 0 => fun _ _ => none
  | n + 1 => fnB 3 (b__law_depth (F__law_parts) (F_kind_of) (F__law_depth n))
/-- law -/
def b_law_k01 (f__law_digits f__law_value f_kind_of f__law_rank f_size_of f__law_size f_depth_of f__law_depth f_parts_of f__law_parts f_sorted_fields : FN) : SF := (sSeq (sAsg (eNew (cLst (aCons (eDef f__law_digits (aCons (eVar 0) (aCons (eC (.int 0)) (aCons (eC (.int 63)) aNil)))) (aCons (eC (.int 0)) aNil)))) (gN 1))
    (sSeq (sFor (iRg rng1 (aCons (eC (.int 4)) aNil)) (gN 2) (sSeq (sAsg (eOp gIx (eVar 1) (eC (.int 1))) (gN 3))
    (sSeq (sAsg (eDef f__law_value (aCons (eVar 1) (aCons (eC (.int 3)) aNil))) (gN 4))
    (sSeq (sPut setL (eVar 3) (eVar 1) (eC (.int 1)))
    (sSeq (sAsg (eDef f__law_value (aCons (eVar 1) (aCons (eC (.int 3)) aNil))) (gN 5))
    (sSeq (sIf (bOr (bE (eOp (gEq true) (eDef f_kind_of (aCons (eVar 5) aNil)) (eDef f__law_rank (aCons (eVar 5) aNil)))) (bOr (bE (eOp (gEq true) (eDef f_size_of (aCons (eVar 5) aNil)) (eDef f__law_size (aCons (eVar 5) aNil)))) (bE (eOp (gEq true) (eDef f_depth_of (aCons (eVar 5) aNil)) (eDef f__law_depth (aCons (eVar 5) aNil)))))) (sRet (eC (.bl false))) sNx)
    (sSeq (sIf (bOr (bE (eOp (gEq true) (eDef f_parts_of (aCons (eVar 5) aNil)) (eDef f__law_parts (aCons (eVar 5) aNil)))) (bNot (bT (eIsi "list" (eDef f_parts_of (aCons (eVar 5) aNil)))))) (sRet (eC (.bl false))) sNx)
    (sSeq (sIf (bT (eIsi "dict" (eVar 5))) (sSeq (sAsg (eFz (cB gSorted (aCons (eVar 5) aNil))) (gN 6))
    (sIf (bE (eOp (gEq true) (eDef f_sorted_fields (aCons (eVar 5) aNil)) (eFz (cComp [7] (iLst (eVar 6)) (gN 7) bTrue (eTup (aCons (eVar 7) (aCons (eOp gIx (eVar 5) (eVar 7)) aNil))))))) (sRet (eC (.bl false))) sNx)) sNx)
    (sIf (bE (eOp (gEq true) (eVar 5) (eVar 4))) (sRet (eC (.bl false))) sNx)))))))))
    (sRet (eC (.bl true)))))
noncomputable def F_law_k01 : FN := fnB 8 (b_law_k01 (F__law_digits) (F__law_value 4) (F_kind_of) (F_kind_of) (F_size_of) (F__law_size 4) (F_depth_of) (F__law_depth 4) (F_parts_of) (F__law_parts) (F_sorted_fields))
end Fm
set_option Elab.async false
set_option linter.all false
set_option maxRecDepth 100000
namespace Fm
open PySem L2 PySem.Spec PyProof.Rows
/-! ### size_of -/
def stV (st : List Vl) : Cell := .lst (st.map fun p => T.d p.D)
def stZ (st : List Vl) : Nat := (st.map Vl.size).sum
theorem stZ_app (a b : List Vl) : stZ (a ++ b) = stZ a + stZ b := by simp [stZ]
theorem size_loop {μ : Mu} {v : T} {cnd : TF} {body : SF} (hc : cnd = bT (eVar 2)) (hb : body = (sSeq (sAsg (eBM yLst gPop (eVar 2) aNil) (gN 3))
    (sSeq (sAug 1 gAdd (eDef F__own_size (aCons (eVar 3) aNil)))
    (sDrop (eBM yLst gExt (eVar 2) (aCons (eDef F_parts_of (aCons (eVar 3) aNil)) aNil)))))) :
    ∀ (n : Nat) (st : List Vl) (sz : Nat) (x3 : Option T), (∀ p ∈ st, p.Wf) → stZ st < n → stZ st ≤ 1000000 →
    ∃ x3', whileN cnd body n [some v, some (.d (.int sz)), some (.p μ.length), x3] (μ ++ [stV st]) = some (.ok (.nx, [some v, some (.d (.int ((sz + stZ st : Nat) : Int))), some (.p μ.length), x3']) (μ ++ [stV []]))
  | 0, _, _, _, _, h, _ => by omega
  | n + 1, st, sz, x3, hw, hn, hm => by
    have hl0 : st.length ≤ 1000000 := by
      have := len_sum hw
      unfold stZ at hm
      omega
    have hg : (μ ++ [stV st])[μ.length]? = some (.lst (st.map fun p => T.d p.D)) := app_get
    have ht : cnd [some v, some (.d (.int sz)), some (.p μ.length), x3] (μ ++ [stV st]) = some (.ok (!st.isEmpty) (μ ++ [stV st])) := by
      rw [hc]
      show mbind _ _ _ = _
      rw [mb_ok (show eVar 2 _ _ = some (.ok (.p μ.length) _) from rfl)]
      show (match truth _ (rd _ _) with | some b => some (Rs.ok b _) | none => none) = _
      rw [rd_cell hg, truth_cell hg]
      simp
    show ∃ x3', mbind (cnd _) _ _ = _
    rw [mb_ok ht]
    rcases List.eq_nil_or_concat st with e | ⟨st', w, e⟩
    · subst e
      exact ⟨x3, rfl⟩
    · rw [List.concat_eq_append] at e
      subst e
      have hww : w.Wf := hw w (by simp)
      have hw' : ∀ p ∈ st', p.Wf := fun p hp => hw p (by simp [hp])
      have hcell : stV (st' ++ [w]) = .lst ((st'.map fun p => T.d p.D) ++ [T.d w.D]) := by simp [stV]
      have hg1 : (μ ++ [stV st'])[μ.length]? = some (.lst (st'.map fun p => T.d p.D)) := app_get
      have hso := size_own hww
      have hp1 := own1_pos w
      have hss : stZ (st' ++ [w]) = stZ st' + w.size := by simp [stZ]
      rw [hss] at hn hm
      have hsum : stZ (st' ++ w.parts) = stZ st' + (w.parts.map Vl.size).sum := stZ_app _ _
      obtain ⟨x3', h⟩ := size_loop hc hb n (st' ++ w.parts) (sz + w.own1) (some (.d w.D)) (by
        intro p hp
        rcases List.mem_append.mp hp with q | q
        · exact hw' p q
        · exact parts_wf hww p q) (by rw [hsum]; omega) (by rw [hsum]; omega)
      have hne : (!(st' ++ [w]).isEmpty) = true := by simp
      rw [hne]
      show ∃ x3', mbind (body _) _ _ = _
      let ρ1 : Rho := [some v, some (.d (.int sz)), some (.p μ.length), some (.d w.D)]
      let ρ2 : Rho := [some v, some (.d (.int ((sz + w.own1 : Nat) : Int))), some (.p μ.length), some (.d w.D)]
      have hA : sAsg (eBM yLst gPop (eVar 2) aNil) (gN 3) [some v, some (.d (.int sz)), some (.p μ.length), x3] (μ ++ [stV (st' ++ [w])]) = some (.ok (.nx, ρ1) (μ ++ [stV st'])) := by
        rw [hcell] at hg ⊢
        have hg2 : (μ ++ [Cell.lst ((st'.map fun p => T.d p.D) ++ [T.d w.D])])[μ.length]? = some (.lst ((st'.map fun p => T.d p.D) ++ [T.d w.D])) := app_get
        have y := y_cell hg2
        have q := pop_cell hg2
        rw [app_set] at q
        simp [eBM, y, q, ρ1, stV]
      have hC : sAug 1 gAdd (eDef F__own_size (aCons (eVar 3) aNil)) ρ1 (μ ++ [stV st']) = some (.ok (.nx, ρ2) (μ ++ [stV st'])) := by
        have k1 := own_size_eq hww (μ ++ [stV st'])
        simp [sAug, ρ1, k1, ρ2]
      have hE : sDrop (eBM yLst gExt (eVar 2) (aCons (eDef F_parts_of (aCons (eVar 3) aNil)) aNil)) ρ2 (μ ++ [stV st']) = some (.ok (.nx, ρ2) (μ ++ [stV (st' ++ w.parts)])) := by
        have k1 := parts_eq hww (μ ++ [stV st'])
        have y := y_cell hg1
        have hpl := parts_len hww
        have hl : (st'.map fun p => T.d p.D).length + (w.parts.map Vl.D).length ≤ SL := by
          simp at hl0 ⊢
          show _ ≤ 16777216
          omega
        have q := ext_cell hg1 hl
        rw [app_set] at q
        have e : stV (st' ++ w.parts) = .lst ((st'.map fun p => T.d p.D) ++ (w.parts.map Vl.D).map T.d) := by
          simp [stV, List.map_map, Function.comp_def]
        rw [e]
        simp [eBM, ρ2, y, k1, q]
      refine ⟨x3', (mb_ok (μ' := μ ++ [stV (st' ++ w.parts)]) (a := (.nx, ρ2)) ?_).trans ?_⟩
      · rw [hb]
        exact seq_nx hA (seq_nx hC hE)
      · have e3 : sz + stZ (st' ++ [w]) = sz + w.own1 + stZ (st' ++ w.parts) := by rw [hss, hsum]; omega
        rw [e3]
        exact h
theorem size_of_eq {v : Vl} (h : v.Wf) (hs : v.size ≤ 1000000) (μ : Mu) : F_size_of [.d v.D] μ = some (.ok (.d (.int v.size)) μ) := by
  obtain ⟨x3', hl⟩ := size_loop (μ := μ) (v := .d v.D) (cnd := _) (body := _) rfl rfl (v.size + 1) [v] 0 none (by simpa using h) (by simp [stZ]) (by simpa [stZ] using hs)
  have hw := sWhile_of hl
  have h1 : eNew (cLst (aCons (eVar 0) aNil)) [some (.d v.D), some (.d (.int 0)), none, none] μ = some (.ok (.p μ.length) (μ ++ [stV [v]])) := by
    simp [eNew, cLst, SL, nwC, stV]
  have e : ((0 + stZ [v] : Nat) : Int) = v.size := by simp [stZ]
  rw [e] at hw
  exact fnB_own (seq_asg rfl (seq_asg h1 (seq_nx hw rfl)))
/-! ### depth_of -/
theorem compI_gen {gf : GF} {tt : TF} {ρ : Rho} {μ : Mu} {el : EF} {h : Vl → T} {f : Vl → T} {p : Vl → Bool} : ∀ {l : List Vl} {acc : List T}, acc.length + l.length ≤ SL → (∀ a ∈ l, ∃ ρ', gf (h a) ρ μ = some (.ok ρ' μ) ∧ tt ρ' μ = some (.ok (p a) μ) ∧ el ρ' μ = some (.ok (f a) μ)) → compI gf tt el ρ (l.map h) acc μ = some (.ok (acc ++ (l.filter p).map f) μ)
  | [], acc, _, _ => by simp [compI]
  | x :: r, acc, hl, hh => by
    simp only [List.length_cons] at hl
    obtain ⟨ρ', h1, h2, h3⟩ := hh x List.mem_cons_self
    have ih := fun (acc : List T) (hl : acc.length + r.length ≤ SL) => compI_gen (gf := gf) (tt := tt) (ρ := ρ) (μ := μ) (el := el) (h := h) (f := f) (p := p) (l := r) (acc := acc) hl fun y hy => hh y (List.mem_cons_of_mem _ hy)
    cases hp : p x
    · have := ih acc (by omega)
      rw [hp] at h2
      simp [compI, noex, h1, h2, hp, this]
    · have := ih (acc ++ [f x]) (by simp; omega)
      rw [hp] at h2
      have hlt : acc.length < 16777216 := by show _ < SL; omega
      simp [compI, noex, h1, h2, h3, hp, this, hlt]
end Fm
set_option Elab.async false
set_option linter.all false
set_option maxRecDepth 100000
namespace Fm
open PySem L2 PySem.Spec PyProof.Rows
theorem dep_own {v : Vl} (h : v.Wf) (hk : 2 ≤ v.kind) : v.dep = 1 + Vl.deps v.parts := by
  cases v with
  | int => simp [Vl.kind] at hk
  | str => simp [Vl.kind] at hk
  | lst xs => rfl
  | tag n w => simp [Vl.dep, Vl.parts, Vl.deps]
  | rc kvs =>
    have e : ∀ n, Vl.depk kvs ≤ n ↔ Vl.deps (Vl.rc kvs).parts ≤ n := by
      intro n
      rw [depk_le, deps_le]
      constructor
      · intro q p hp
        obtain ⟨x, hx, e⟩ := List.mem_map.mp hp
        exact e ▸ q x ((fsort_perm h.2.1).mem_iff.mp hx)
      · intro q p hp
        exact q p.2 (List.mem_map.mpr ⟨p, (fsort_perm h.2.1).mem_iff.mpr hp, rfl⟩)
    have e1 := (e _).mp (Nat.le_refl _)
    have e2 := (e _).mpr (Nat.le_refl _)
    rw [Vl.dep]
    omega
theorem dep_flat {v : Vl} (hk : ¬ 2 ≤ v.kind) : v.dep = 0 := by
  cases v <;> first | rfl | exact absurd (by simp [Vl.kind]) hk
def nxt (l : List Vl) : List Vl := (l.flatMap Vl.parts).filter fun p => decide (2 ≤ p.kind)
theorem deps_app (a b : List Vl) : Vl.deps (a ++ b) = max (Vl.deps a) (Vl.deps b) := by
  induction a with
  | nil => simp [Vl.deps]
  | cons x r ih => rw [List.cons_append, Vl.deps, ih, Vl.deps]; omega
theorem deps_filter (l : List Vl) : Vl.deps (l.filter fun p => decide (2 ≤ p.kind)) = Vl.deps l := by
  induction l with
  | nil => rfl
  | cons x r ih =>
    by_cases h : 2 ≤ x.kind
    · rw [List.filter_cons_of_pos (by simpa using h), Vl.deps, ih, Vl.deps]
    · rw [List.filter_cons_of_neg (by simpa using h), ih, Vl.deps, dep_flat h]; omega
theorem deps_nxt : ∀ {l : List Vl}, (∀ p ∈ l, p.Wf ∧ 2 ≤ p.kind) → l ≠ [] → Vl.deps l = 1 + Vl.deps (nxt l)
  | [], _, h => absurd rfl h
  | [x], hw, _ => by
    have h := hw x List.mem_cons_self
    simp only [nxt, deps_filter]
    simp [Vl.deps, dep_own h.1 h.2]
  | x :: y :: r, hw, _ => by
    have h := hw x List.mem_cons_self
    have ih := deps_nxt (l := y :: r) (fun p hp => hw p (List.mem_cons_of_mem _ hp)) (by simp)
    simp only [nxt, deps_filter] at ih ⊢
    rw [Vl.deps, ih, dep_own h.1 h.2]
    simp only [List.flatMap_cons, deps_app]
    omega
theorem stZ_nxt : ∀ {l : List Vl}, (∀ p ∈ l, p.Wf) → stZ (nxt l) + l.length ≤ stZ l
  | [], _ => by simp [nxt, stZ]
  | x :: r, hw => by
    have h := hw x List.mem_cons_self
    have ih := stZ_nxt (l := r) fun p hp => hw p (List.mem_cons_of_mem _ hp)
    have hs := size_own h
    have hp := own1_pos x
    have hf : ∀ l : List Vl, stZ (l.filter fun p => decide (2 ≤ p.kind)) ≤ stZ l := by
      intro l
      induction l with
      | nil => simp [stZ]
      | cons y s ih =>
        rw [List.filter_cons]
        split <;> simp only [stZ, List.map_cons, List.sum_cons] at ih ⊢ <;> omega
    have := hf x.parts
    simp only [nxt, List.flatMap_cons, List.filter_append, stZ_app] at ih ⊢
    simp only [stZ, List.map_cons, List.sum_cons, List.length_cons] at ih this ⊢
    omega
theorem nxt_ok {l : List Vl} (hw : ∀ p ∈ l, p.Wf) : ∀ p ∈ nxt l, p.Wf ∧ 2 ≤ p.kind := by
  intro p hp
  obtain ⟨h1, h2⟩ := List.mem_filter.mp hp
  obtain ⟨q, hq, h3⟩ := List.mem_flatMap.mp h1
  exact ⟨parts_wf (hw q hq) p h3, by simpa using h2⟩
/-- the two fors of depth_of -/
theorem depth_comp {x0 x1 x2 : Option T} {μ : Mu} : ∀ {l : List Vl} {acc : List T}, (∀ p ∈ l, p.Wf) → acc.length + stZ l ≤ SL →
    compL2 (gN 3) bTrue [4] (iLst (eDef F_parts_of (aCons (eVar 3) aNil))) (gN 4) (bT (eDef F__has_depth (aCons (eVar 4) aNil))) (eVar 4) [x0, x1, x2, none, none] (l.map fun p => T.d p.D) acc μ = some (.ok (.lst (acc ++ (nxt l).map fun p => T.d p.D)) μ)
  | [], acc, _, _ => by simp [compL2, nxt]
  | v :: r, acc, hw, hl => by
    have h := hw v List.mem_cons_self
    have hs := size_own h
    have hz : stZ (v :: r) = v.size + stZ r := by simp [stZ]
    have hlen := len_sum (parts_wf h)
    have hp1 := own1_pos v
    have hfl : ((v.parts.filter fun p => decide (2 ≤ p.kind)).map fun p => T.d p.D).length ≤ v.parts.length := by
      rw [List.length_map]; exact List.length_filter_le _ _
    have k1 := parts_eq h μ
    have hi : noex (iLst (eDef F_parts_of (aCons (eVar 3) aNil)) [x0, x1, x2, some (.d v.D), none]) μ = some (.ok (v.parts.map fun p => T.d p.D) μ) := by
      unfold noex
      rw [iLst_eq (f := Vl.D) v.parts (by simp [k1])]
    have hc := compI_gen (gf := gN 4) (tt := bT (eDef F__has_depth (aCons (eVar 4) aNil))) (ρ := wipeR [x0, x1, x2, some (.d v.D), none] [4]) (μ := μ) (el := eVar 4) (h := fun p => T.d p.D) (f := fun p => T.d p.D) (p := fun p => decide (2 ≤ p.kind)) (l := v.parts) (acc := acc) (by omega) (by
      intro a ha
      refine ⟨_, rfl, ?_, ?_⟩
      · simp [wipeR, has_depth_eq]
      · simp [wipeR])
    have ih := depth_comp (x0 := x0) (x1 := x1) (x2 := x2) (μ := μ) (l := r) (acc := acc ++ (v.parts.filter fun p => decide (2 ≤ p.kind)).map fun p => T.d p.D) (fun p hp => hw p (List.mem_cons_of_mem _ hp)) (by rw [List.length_append]; omega)
    show mbind (noex _) _ μ = _
    rw [mb_ok (show noex (gN 3 (T.d v.D) [x0, x1, x2, none, none]) μ = some (.ok [x0, x1, x2, some (.d v.D), none] μ) by simp [noex])]
    rw [mb_ok (show noex (bTrue [x0, x1, x2, some (.d v.D), none]) μ = some (.ok true μ) by simp [noex, bTrue])]
    rw [if_pos rfl, mb_ok hi, mb_ok hc, ih]
    simp [nxt]
theorem depth_loop {μ : Mu} {v : T} {cnd : TF} {body : SF} (hc : cnd = bT (eVar 2)) (hb : body = (sSeq (sAug 1 gAdd (eC (.int 1)))
    (sAsg (eFz (cComp2 [3, 4] [4] (iLst (eVar 2)) (gN 3) bTrue (iLst (eDef F_parts_of (aCons (eVar 3) aNil))) (gN 4) (bT (eDef F__has_depth (aCons (eVar 4) aNil))) (eVar 4))) (gN 2)))) :
    ∀ (n : Nat) (l : List Vl) (d : Nat), (∀ p ∈ l, p.Wf ∧ 2 ≤ p.kind) → stZ l < n → stZ l ≤ 1000000 →
    ∃ l', whileN cnd body n [some v, some (.d (.int d)), some (.d (.lst (l.map Vl.D))), none, none] μ = some (.ok (.nx, [some v, some (.d (.int ((d + Vl.deps l : Nat) : Int))), some (.d l'), none, none]) μ)
  | 0, _, _, _, h, _ => by omega
  | n + 1, l, d, hw, hn, hm => by
    have ht : cnd [some v, some (.d (.int d)), some (.d (.lst (l.map Vl.D))), none, none] μ = some (.ok (!l.isEmpty) μ) := by
      rw [hc]
      simp [lstOf]
    show ∃ l', mbind (cnd _) _ _ = _
    rw [mb_ok ht]
    cases hl : l with
    | nil => exact ⟨_, rfl⟩
    | cons x r =>
      rw [← hl]
      have hne : (!l.isEmpty) = true := by rw [hl]; rfl
      have hne' : l ≠ [] := by rw [hl]; simp
      have hlen : 1 ≤ l.length := by rw [hl]; simp
      have hwf : ∀ p ∈ l, p.Wf := fun p hp => (hw p hp).1
      have hz := stZ_nxt hwf
      obtain ⟨l', h⟩ := depth_loop (v := v) (μ := μ) hc hb n (nxt l) (d + 1) (nxt_ok hwf) (by omega) (by omega)
      have hco : cComp2 [3, 4] [4] (iLst (eVar 2)) (gN 3) bTrue (iLst (eDef F_parts_of (aCons (eVar 3) aNil))) (gN 4) (bT (eDef F__has_depth (aCons (eVar 4) aNil))) (eVar 4) [some v, some (.d (.int ((d + 1 : Nat) : Int))), some (.d (.lst (l.map Vl.D))), none, none] μ = some (.ok (.lst (((nxt l).map Vl.D).map T.d)) μ) := by
        show mbind _ _ μ = _
        rw [mb_ok (iLst_eq (f := Vl.D) l (by simp))]
        have := depth_comp (x0 := some v) (x1 := some (.d (.int ((d + 1 : Nat) : Int)))) (x2 := some (.d (.lst (l.map Vl.D)))) (μ := μ) (l := l) (acc := []) hwf (by show 0 + _ ≤ 16777216; omega)
        simpa [wipeR, List.map_map, Function.comp_def] using this
      have hfz : eFz (cComp2 [3, 4] [4] (iLst (eVar 2)) (gN 3) bTrue (iLst (eDef F_parts_of (aCons (eVar 3) aNil))) (gN 4) (bT (eDef F__has_depth (aCons (eVar 4) aNil))) (eVar 4)) [some v, some (.d (.int ((d + 1 : Nat) : Int))), some (.d (.lst (l.map Vl.D))), none, none] μ = some (.ok (.d (.lst ((nxt l).map Vl.D))) μ) := (mb_ok hco).trans (fz_of _)
      rw [hne]
      show ∃ l', mbind (body _) _ _ = _
      refine ⟨l', (mb_ok (μ' := μ) (a := (.nx, [some v, some (.d (.int ((d + 1 : Nat) : Int))), some (.d (.lst ((nxt l).map Vl.D))), none, none])) ?_).trans ?_⟩
      · rw [hb]
        refine seq_nx (ρ' := [some v, some (.d (.int ((d + 1 : Nat) : Int))), some (.d (.lst (l.map Vl.D))), none, none]) (μ' := μ) ?_ ?_
        · simp [sAug]
        · exact asg_eq hfz
      · have e : d + Vl.deps l = d + 1 + Vl.deps (nxt l) := by rw [deps_nxt hw hne']; omega
        rw [e]
        exact h
theorem depth_of_eq {v : Vl} (h : v.Wf) (hs : v.size ≤ 1000000) (μ : Mu) : F_depth_of [.d v.D] μ = some (.ok (.d (.int v.dep)) μ) := by
  by_cases hk : 2 ≤ v.kind
  · obtain ⟨l', hl⟩ := depth_loop (μ := μ) (v := .d v.D) (cnd := _) (body := _) rfl rfl (v.size + 1) [v] 0 (by simpa using ⟨h, hk⟩) (by simp [stZ]) (by simpa [stZ] using hs)
    have hw := sWhile_of hl
    have e : ((0 + Vl.deps [v] : Nat) : Int) = v.dep := by simp [Vl.deps]
    rw [e] at hw
    refine fnB_ret (seq_asg rfl (seq_asg (y := .d (.lst [v.D])) (μ' := μ) ?_ (seq_nx hw rfl)))
    simp [has_depth_eq, hk, eFz, cLst, SL, fzC, Cell.data, dTs]
  · obtain ⟨l', hl⟩ := depth_loop (μ := μ) (v := .d v.D) (cnd := _) (body := _) rfl rfl (v.size + 1) [] 0 (by simp) (by simp [stZ]) (by simp [stZ])
    have hw := sWhile_of hl
    have e : ((0 + Vl.deps [] : Nat) : Int) = v.dep := by simp [Vl.deps, dep_flat hk]
    rw [e] at hw
    refine fnB_ret (seq_asg rfl (seq_asg (y := .d (.lst [])) (μ' := μ) ?_ (seq_nx hw rfl)))
    simp [has_depth_eq, hk, eFz, cLst, SL, fzC, Cell.data, dTs]
/-! ### the law's own depth -/
theorem max_loop {μ : Mu} {f : FN} {v : T} : ∀ (l : List Vl) (acc : Nat) (x : Option T), (∀ p ∈ l, f [.d p.D] μ = some (.ok (.d (.int p.dep)) μ)) →
    ∃ x', forL (gN 2) (sAsg (eB gMax (aCons (eVar 1) (aCons (eOp gAdd (eC (.int 1)) (eDef f (aCons (eVar 2) aNil))) aNil))) (gN 1)) (l.map fun p => T.d p.D) [some v, some (.d (.int acc)), x] μ = some (.ok (.nx, [some v, some (.d (.int ((l.foldl (fun a p => max a (1 + p.dep)) acc : Nat) : Int))), x']) μ)
  | [], acc, x, _ => ⟨x, by simp [forL]⟩
  | p :: r, acc, x, h => by
    have h1 := h p List.mem_cons_self
    obtain ⟨x', h2⟩ := max_loop r (max acc (1 + p.dep)) (some (.d p.D)) fun q hq => h q (List.mem_cons_of_mem _ hq)
    refine ⟨x', for_step rfl ?_ h2⟩
    have e : (((max acc (1 + p.dep) : Nat)) : Int) = if (acc : Int) < 1 + (p.dep : Int) then 1 + (p.dep : Int) else (acc : Int) := by split <;> omega
    rw [e]
    simp [h1, eB, ofG, gMax]
theorem fold_max : ∀ (l : List Vl) (acc : Nat), l.foldl (fun a p => max a (1 + p.dep)) acc = if l = [] then acc else max acc (1 + Vl.deps l)
  | [], acc => rfl
  | [x], acc => by simp [Vl.deps]
  | x :: y :: r, acc => by
    rw [List.foldl_cons, fold_max (y :: r)]
    simp only [List.cons_ne_nil, if_false, reduceCtorEq]
    simp only [Vl.deps]
    omega
theorem law_depth_of {v : Vl} (h : v.Wf) {f : FN} {μ : Mu} (hf : ∀ p ∈ v.parts, f [.d p.D] μ = some (.ok (.d (.int p.dep)) μ)) : fnB 3 (b__law_depth F__law_parts F_kind_of f) [.d v.D] μ = some (.ok (.d (.int v.dep)) μ) := by
  have hr := kind_eq v μ
  have hp := law_parts_eq h μ
  by_cases hk : 2 ≤ v.kind
  · obtain ⟨x', h2⟩ := max_loop (v := .d v.D) v.parts 1 none hf
    rw [fold_max] at h2
    have e : (if v.parts = [] then 1 else max 1 (1 + Vl.deps v.parts)) = v.dep := by
      rw [dep_own h hk]
      split
      · rename_i q; rw [q]; rfl
      · omega
    rw [e] at h2
    refine fnB_ret (seq_asg rfl (seq_nx (ρ' := [some (.d v.D), some (.d (.int 1)), none]) (μ' := μ) ?_ (seq_nx (for_eq (iLst_eq v.parts ?_) h2) (ret_eq rfl))))
    · have : (1 : Int) < v.kind := by omega
      simp [hr, this]
    · simp [hp]
  · have hpn : v.parts = [] := by cases v <;> first | rfl | exact absurd (by simp [Vl.kind]) hk
    rw [hpn] at hp
    refine fnB_ret (seq_asg rfl (seq_nx (ρ' := [some (.d v.D), some (.d (.int 0)), none]) (μ' := μ) ?_ (seq_nx (for_eq (μ' := μ) (iLst_eq (f := Vl.D) [] ?_) rfl) (ret_eq ?_))))
    · have : ¬ (1 : Int) < v.kind := by omega
      simp [hr, this]
    · simp [hp]
    · simp [dep_flat hk]
theorem law_depth_eq (μ : Mu) : ∀ (n : Nat) {v : Vl}, v.Wf → v.dep ≤ n → F__law_depth (n + 1) [.d v.D] μ = some (.ok (.d (.int v.dep)) μ)
  | 0, v, h, hd => law_depth_of h fun p hp => by rw [dep_parts (by omega)] at hp; cases hp
  | n + 1, v, h, hd => law_depth_of h fun p hp => law_depth_eq μ n (parts_wf h p hp) (parts_dep h hd p hp)
end Fm
set_option Elab.async false
set_option linter.all false
set_option maxRecDepth 100000
namespace Fm
open PySem L2 PySem.Spec PyProof.Rows
/-! ### data is equal to itself -/
theorem zipO_self {f : D → D → Option Bool} : ∀ {xs : List D}, (∀ x ∈ xs, f x x = some true) → zipO f xs xs = some true
  | [], _ => rfl
  | x :: r, h => by
    have h1 := h x List.mem_cons_self
    have h2 := zipO_self (f := f) (xs := r) fun y hy => h y (List.mem_cons_of_mem _ hy)
    simp [zipO, h1, h2]
theorem dctO_self {f : D → D → Option Bool} {ls : List (Key × D)} : ∀ {ks : List (Key × D)}, (∀ p ∈ ks, valD ls p.1 = some p.2 ∧ f p.2 p.2 = some true) → dctO f ls ks = some true
  | [], _ => rfl
  | (k, x) :: r, h => by
    obtain ⟨h1, h2⟩ := h _ List.mem_cons_self
    have h3 := dctO_self (f := f) (ls := ls) (ks := r) fun y hy => h y (List.mem_cons_of_mem _ hy)
    simp [dctO, h1, h2, h3]
theorem valD_dk {kvs : List (Str × Vl)} (hn : (kvs.map (·.1)).Nodup) {p : Key × D} (hp : p ∈ Vl.Dk kvs) : valD (Vl.Dk kvs) p.1 = some p.2 := by
  rw [Vl.Dk_map] at hp ⊢
  obtain ⟨q, hq, e⟩ := List.mem_map.mp hp
  subst e
  clear hp
  induction kvs with
  | nil => cases hq
  | cons x r ih =>
    obtain ⟨h1, h2⟩ := List.nodup_cons.mp hn
    unfold valD
    rw [List.map_cons, List.find?_cons]
    rcases List.mem_cons.mp hq with e | e
    · subst e
      simp
    · have hne : x.1 ≠ q.1 := fun z => h1 (by show x.1 ∈ _; rw [z]; exact List.mem_map.mpr ⟨_, e, rfl⟩)
      rw [show decide ((Sum.inr x.1 : Key) = Sum.inr q.1) = false from decide_eq_false fun z => hne (Sum.inr.inj z)]
      exact ih h2 e
theorem deq_lst {n : Nat} {xs : List D} (h : ∀ x ∈ xs, deq n x x = some true) : deq (n + 1) (.lst xs) (.lst xs) = some true := by
  show (if xs.length = xs.length then zipO (deq n) xs xs else some false) = _
  rw [if_pos rfl]
  exact zipO_self h
theorem deq_tup {n : Nat} {xs : List D} (h : ∀ x ∈ xs, deq n x x = some true) : deq (n + 1) (.tup xs) (.tup xs) = some true := by
  show (zipO (deq n) xs xs).map _ = _
  rw [zipO_self h]
  simp
theorem deq_str (n : Nat) (s : Str) : deq n (.str s) (.str s) = some true := by
  cases n <;> simp [deq, feq, mixed, ki]
theorem deq_int (n : Nat) (s : Int) : deq n (.int s) (.int s) = some true := by
  cases n <;> simp [deq, feq, mixed, ki]
theorem deq_self : ∀ (n : Nat) {v : Vl}, v.Wf → v.dep ≤ n → deq n v.D v.D = some true
  | n, .int i, _, _ => deq_int n i
  | n, .str s, _, _ => deq_str n s
  | 0, .lst xs, _, h => by rw [Vl.dep] at h; omega
  | 0, .rc xs, _, h => by rw [Vl.dep] at h; omega
  | 0, .tag n v, _, h => by rw [Vl.dep] at h; omega
  | n + 1, .lst xs, w, h => by
    rw [Vl.dep] at h
    have hd := deps_le.mp (show Vl.deps xs ≤ n by omega)
    rw [Vl.D, Vl.Ds_map]
    refine deq_lst fun x hx => ?_
    obtain ⟨v, hv, e⟩ := List.mem_map.mp hx
    exact e ▸ deq_self n (Vl.Wfs_all.mp w.2 v hv) (hd v hv)
  | n + 1, .tag s v, w, h => by
    rw [Vl.dep] at h
    rw [Vl.D]
    refine deq_tup fun x hx => ?_
    simp only [List.mem_cons, List.not_mem_nil, or_false] at hx
    rcases hx with e | e <;> subst e
    · exact deq_str n s
    · exact deq_self n w.2 (by omega)
  | n + 1, .rc kvs, w, h => by
    rw [Vl.dep] at h
    have hd := depk_le.mp (show Vl.depk kvs ≤ n by omega)
    show (dctO (deq n) (Vl.Dk kvs) (Vl.Dk kvs)).map _ = _
    rw [dctO_self fun p hp => ⟨valD_dk w.2.1 hp, ?_⟩]
    · simp
    · rw [Vl.Dk_map] at hp
      obtain ⟨q, hq, e⟩ := List.mem_map.mp hp
      subst e
      exact deq_self n (Vl.Wfk_all.mp w.2.2 q hq).2 (hd q hq)
theorem gEq_same {d : D} {n : Bool} {μ : Mu} (hk : 3 ≤ ki d) (h : deq 60 d d = some true) : gEq n μ (.d d) (.d d) = some (.d (.bl (!n))) := by
  have hf : flat (.d d) = none := by cases d <;> first | rfl | (simp [ki] at hk)
  simp only [gEq, g2or, gEqF, hf, gEqT]
  rw [if_pos ⟨trivial, hk⟩, h]
  cases n <;> rfl
theorem gEq_v {v : Vl} (h : v.Wf) (hd : v.dep ≤ 60) (n : Bool) (μ : Mu) : gEq n μ (.d v.D) (.d v.D) = some (.d (.bl (!n))) := by
  cases v with
  | int i => cases n <;> simp [Vl.D]
  | str s => cases n <;> simp [Vl.D]
  | lst xs => exact gEq_same (by simp [Vl.D, ki]) (deq_self 60 h hd)
  | rc xs => exact gEq_same (by simp [Vl.D, ki]) (deq_self 60 h hd)
  | tag s w => exact gEq_same (by simp [Vl.D, ki]) (deq_self 60 h hd)
theorem gEq_i {i j : Int} (n : Bool) (μ : Mu) : gEq n μ (.d (.int i)) (.d (.int j)) = some (.d (.bl (if n then !decide (i = j) else decide (i = j)))) := by
  simp
/-! ### the law -/
theorem k01_body {μ0 : Mu} {ds : List Int} {f : SF} (hb : 0 < μ0.length) {x0 x2 x3 x4 x5 x6 x7 : Option T} {k : Nat} (hf : f = (sSeq (sAsg (eOp gIx (eVar 1) (eC (.int 1))) (gN 3))
    (sSeq (sAsg (eDef (F__law_value 4) (aCons (eVar 1) (aCons (eC (.int 3)) aNil))) (gN 4))
    (sSeq (sPut setL (eVar 3) (eVar 1) (eC (.int 1)))
    (sSeq (sAsg (eDef (F__law_value 4) (aCons (eVar 1) (aCons (eC (.int 3)) aNil))) (gN 5))
    (sSeq (sIf (bOr (bE (eOp (gEq true) (eDef F_kind_of (aCons (eVar 5) aNil)) (eDef F_kind_of (aCons (eVar 5) aNil)))) (bOr (bE (eOp (gEq true) (eDef F_size_of (aCons (eVar 5) aNil)) (eDef (F__law_size 4) (aCons (eVar 5) aNil)))) (bE (eOp (gEq true) (eDef F_depth_of (aCons (eVar 5) aNil)) (eDef (F__law_depth 4) (aCons (eVar 5) aNil)))))) (sRet (eC (.bl false))) sNx)
    (sSeq (sIf (bOr (bE (eOp (gEq true) (eDef F_parts_of (aCons (eVar 5) aNil)) (eDef F__law_parts (aCons (eVar 5) aNil)))) (bNot (bT (eIsi "list" (eDef F_parts_of (aCons (eVar 5) aNil)))))) (sRet (eC (.bl false))) sNx)
    (sSeq (sIf (bT (eIsi "dict" (eVar 5))) (sSeq (sAsg (eFz (cB gSorted (aCons (eVar 5) aNil))) (gN 6))
    (sIf (bE (eOp (gEq true) (eDef F_sorted_fields (aCons (eVar 5) aNil)) (eFz (cComp [7] (iLst (eVar 6)) (gN 7) bTrue (eTup (aCons (eVar 7) (aCons (eOp gIx (eVar 5) (eVar 7)) aNil))))))) (sRet (eC (.bl false))) sNx)) sNx)
    (sIf (bE (eOp (gEq true) (eVar 5) (eVar 4))) (sRet (eC (.bl false))) sNx))))))))) :
    ∃ x3' x4' x5' x6' x7' j, f [x0, some (.p 0), x2, x3, x4, x5, x6, x7] (Bx μ0 0 ds k) = some (.ok (.nx, [x0, some (.p 0), x2, x3', x4', x5', x6', x7']) (Bx μ0 0 ds j)) := by
  obtain ⟨v, j, hv, h3⟩ := value_ex (ds := ds) 3 (μ := μ0) k hb
  have h3 : F__law_value 4 [.p 0, .d (.int 3)] (Bx μ0 0 ds k) = some (.ok (.d v.D) (Bx μ0 0 ds j)) := h3
  have hw := hv.wf
  have hdp := hv.dep
  have hsz : v.size ≤ 1000000 := by
    have := hv.size
    have e : bnd 3 = 121 := rfl
    omega
  have a1 := Bx_at1 (ds := ds) (k := k) hb
  have p1 := Bx_put (ds := ds) (k := j) (j := k) hb
  have z1 := Bx_fz (ds := ds) (k := k) hb
  have z2 := Bx_fz (ds := ds) (k := j) hb
  have e1 := kind_eq v (Bx μ0 0 ds j)
  have e2 := size_of_eq hw hsz (Bx μ0 0 ds j)
  have e3 := law_size_eq (Bx μ0 0 ds j) 3 hw hdp
  have e4 := depth_of_eq hw hsz (Bx μ0 0 ds j)
  have e5 := law_depth_eq (Bx μ0 0 ds j) 3 hw hdp
  have e6 := parts_eq hw (Bx μ0 0 ds j)
  have e7 := law_parts_eq hw (Bx μ0 0 ds j)
  have q1 : gEq true (Bx μ0 0 ds j) (.d v.D) (.d v.D) = some (.d (.bl false)) := gEq_v hw (by omega) true _
  have q2 : gEq true (Bx μ0 0 ds j) (.d (.lst (v.parts.map Vl.D))) (.d (.lst (v.parts.map Vl.D))) = some (.d (.bl false)) := gEq_same (by simp [ki]) (deq_lst (n := 59) fun x hx => by
    obtain ⟨p, hp, e⟩ := List.mem_map.mp hx
    exact e ▸ deq_self 59 (parts_wf hw p hp) (parts_dep hw (n := 59) (by omega) p hp))
  have t1 : sAsg (eOp gIx (eVar 1) (eC (.int 1))) (gN 3) [x0, some (.p 0), x2, x3, x4, x5, x6, x7] (Bx μ0 0 ds k) = some (.ok (.nx, [x0, some (.p 0), x2, some (.d (.int k)), x4, x5, x6, x7]) (Bx μ0 0 ds k)) := by simp [z1, a1]
  have t2 : sAsg (eDef (F__law_value 4) (aCons (eVar 1) (aCons (eC (.int 3)) aNil))) (gN 4) [x0, some (.p 0), x2, some (.d (.int k)), x4, x5, x6, x7] (Bx μ0 0 ds k) = some (.ok (.nx, [x0, some (.p 0), x2, some (.d (.int k)), some (.d v.D), x5, x6, x7]) (Bx μ0 0 ds j)) := by simp [h3]
  have t3 : sPut setL (eVar 3) (eVar 1) (eC (.int 1)) [x0, some (.p 0), x2, some (.d (.int k)), some (.d v.D), x5, x6, x7] (Bx μ0 0 ds j) = some (.ok (.nx, [x0, some (.p 0), x2, some (.d (.int k)), some (.d v.D), x5, x6, x7]) (Bx μ0 0 ds k)) := by simp [sPut, p1]
  have t4 : sAsg (eDef (F__law_value 4) (aCons (eVar 1) (aCons (eC (.int 3)) aNil))) (gN 5) [x0, some (.p 0), x2, some (.d (.int k)), some (.d v.D), x5, x6, x7] (Bx μ0 0 ds k) = some (.ok (.nx, [x0, some (.p 0), x2, some (.d (.int k)), some (.d v.D), some (.d v.D), x6, x7]) (Bx μ0 0 ds j)) := by simp [h3]
  have last : ∀ x6 x7 : Option T, sIf (bE (eOp (gEq true) (eVar 5) (eVar 4))) (sRet (eC (.bl false))) sNx [x0, some (.p 0), x2, some (.d (.int k)), some (.d v.D), some (.d v.D), x6, x7] (Bx μ0 0 ds j) = some (.ok (.nx, [x0, some (.p 0), x2, some (.d (.int k)), some (.d v.D), some (.d v.D), x6, x7]) (Bx μ0 0 ds j)) := by
    intro x6 x7
    simp [q1]
  have mid : ∃ x6' x7', sIf (bT (eIsi "dict" (eVar 5))) (sSeq (sAsg (eFz (cB gSorted (aCons (eVar 5) aNil))) (gN 6))
    (sIf (bE (eOp (gEq true) (eDef F_sorted_fields (aCons (eVar 5) aNil)) (eFz (cComp [7] (iLst (eVar 6)) (gN 7) bTrue (eTup (aCons (eVar 7) (aCons (eOp gIx (eVar 5) (eVar 7)) aNil))))))) (sRet (eC (.bl false))) sNx)) sNx [x0, some (.p 0), x2, some (.d (.int k)), some (.d v.D), some (.d v.D), x6, x7] (Bx μ0 0 ds j) = some (.ok (.nx, [x0, some (.p 0), x2, some (.d (.int k)), some (.d v.D), some (.d v.D), x6', x7']) (Bx μ0 0 ds j)) := by
    cases v with
    | rc kvs =>
      refine ⟨some (.d (.lst ((sortS (kvs.map (·.1))).map D.str))), x7, if_t (μ' := Bx μ0 0 ds j) (by simp [Vl.D]) (seq_asg (μ' := Bx μ0 0 ds j) (sorted_eq hw.1 (by simp [Vl.D])) (if_f (μ' := Bx μ0 0 ds j) ?_ rfl))⟩
      have g1 := fields_eq hw.1 (Bx μ0 0 ds j)
      have g2 : ∀ ρ : Rho, slotT ρ 5 = some (.d (Vl.rc kvs).D) → slotT ρ 6 = some (.d (.lst ((sortS (kvs.map (·.1))).map D.str))) → eFz (cComp [7] (iLst (eVar 6)) (gN 7) bTrue (eTup (aCons (eVar 7) (aCons (eOp gIx (eVar 5) (eVar 7)) aNil)))) [x0, some (.p 0), x2, some (.d (.int k)), some (.d (Vl.rc kvs).D), some (.d (Vl.rc kvs).D), some (.d (.lst ((sortS (kvs.map (·.1))).map D.str))), x7] (Bx μ0 0 ds j) = some (.ok (.d (.lst ((fsort kvs).map pairD))) (Bx μ0 0 ds j)) := by
        intro ρ _ _
        unfold fsort
        rw [List.map_map]
        refine cmp_eq (sortS (kvs.map (·.1))) (fun s => T.d (.str s)) (pairD ∘ fun n => (n, fget kvs n)) (iLst_eq (f := D.str) _ ?_) ?_ ?_
        · rfl
        · have := hw.1
          rw [sortS_len, List.length_map]; show _ ≤ 16777216; omega
        · intro n hn
          refine ⟨_, rfl, ?_⟩
          simp [wipeR, eTup, dTs, SL, dget_eq _ (sort_mem hn), pairD, Vl.D]
      have g3 : gEq true (Bx μ0 0 ds j) (.d (.lst ((fsort kvs).map pairD))) (.d (.lst ((fsort kvs).map pairD))) = some (.d (.bl false)) := gEq_same (by simp [ki]) (deq_lst (n := 59) fun x hx => by
        obtain ⟨p, hp, e⟩ := List.mem_map.mp hx
        subst e
        refine deq_tup (n := 58) fun y hy => ?_
        simp only [List.mem_cons, List.not_mem_nil, or_false] at hy
        rcases hy with e | e <;> subst e
        · exact deq_str _ _
        · have hpp : p.2 ∈ (Vl.rc kvs).parts := List.mem_map.mpr ⟨p, hp, rfl⟩
          exact deq_self 58 (parts_wf hw _ hpp) (parts_dep hw (n := 58) (by omega) _ hpp))
      have g2' := g2 [none, none, none, none, none, some (.d (Vl.rc kvs).D), some (.d (.lst ((sortS (kvs.map (·.1))).map D.str)))] rfl rfl
      have g1' : eDef F_sorted_fields (aCons (eVar 5) aNil) [x0, some (.p 0), x2, some (.d (.int k)), some (.d (Vl.rc kvs).D), some (.d (Vl.rc kvs).D), some (.d (.lst ((sortS (kvs.map (·.1))).map D.str))), x7] (Bx μ0 0 ds j) = some (.ok (.d (.lst ((fsort kvs).map pairD))) (Bx μ0 0 ds j)) := by simp [Vl.D, g1]
      exact be_eq (op_eq' g1' g2' g3)
    | int i => exact ⟨x6, x7, if_f (μ' := Bx μ0 0 ds j) (by simp [Vl.D]) rfl⟩
    | str i => exact ⟨x6, x7, if_f (μ' := Bx μ0 0 ds j) (by simp [Vl.D]) rfl⟩
    | lst i => exact ⟨x6, x7, if_f (μ' := Bx μ0 0 ds j) (by simp [Vl.D]) rfl⟩
    | tag n i => exact ⟨x6, x7, if_f (μ' := Bx μ0 0 ds j) (by simp [Vl.D]) rfl⟩
  obtain ⟨x6', x7', mid⟩ := mid
  refine ⟨some (.d (.int k)), some (.d v.D), some (.d v.D), x6', x7', j, ?_⟩
  rw [hf]
  clear hf
  refine seq_nx t1 (seq_nx t2 (seq_nx t3 (seq_nx t4 (seq_pass ?_ (seq_pass ?_ (seq_nx mid (last _ _)))))))
  · simp [e1, e2, e3, e4, e5]
  · simp [e6, e7, q2]
theorem law_k01_true (ns : List Int) (_ : ns.length ≤ 63) : ∃ μ, F_law_k01 [.d (.kl ns)] [] = some (.ok (.d (.bl true)) μ) := by
  obtain ⟨ds, hd⟩ := digits_ex ns []
  have hb : 0 < ([bx ds 0] : Mu).length := by simp
  generalize hμ : ([bx ds 0] : Mu) = μ0 at hb
  have hB : μ0 = Bx μ0 0 ds 0 := by rw [← hμ]; rfl
  have h1 : eNew (cLst (aCons (eDef F__law_digits (aCons (eVar 0) (aCons (eC (.int 0)) (aCons (eC (.int 63)) aNil)))) (aCons (eC (.int 0)) aNil))) [some (.d (.kl ns)), none, none, none, none, none, none, none] [] = some (.ok (.p 0) (Bx μ0 0 ds 0)) := by
    rw [← hB, ← hμ]
    simp [eNew, cLst, hd, SL, nwC, bx]
  let Inv : Rho → Mu → Prop := fun ρ μ => ∃ x2 x3 x4 x5 x6 x7 k, ρ = [some (.d (.kl ns)), some (.p 0), x2, x3, x4, x5, x6, x7] ∧ μ = Bx μ0 0 ds k
  obtain ⟨ρ', μ', hl, x2, x3, x4, x5, x6, x7, k, hρ, hm⟩ := forL_ex (Inv := Inv) (g := gN 2) (b := _) (xs := (List.range 4).map fun (k : Nat) => T.d (.int k)) (ρ := [some (.d (.kl ns)), some (.p 0), none, none, none, none, none, none]) (μ := Bx μ0 0 ds 0) (by
    rintro x hx ρ μ ⟨x2, x3, x4, x5, x6, x7, k, rfl, rfl⟩
    obtain ⟨x3', x4', x5', x6', x7', j, h⟩ := k01_body (μ0 := μ0) (ds := ds) hb (x0 := some (.d (.kl ns))) (x2 := some x) (x3 := x3) (x4 := x4) (x5 := x5) (x6 := x6) (x7 := x7) (k := k) rfl
    exact ⟨_, _, (mb_ok (show gN 2 x [some (.d (.kl ns)), some (.p 0), x2, x3, x4, x5, x6, x7] (Bx μ0 0 ds k) = some (.ok [some (.d (.kl ns)), some (.p 0), some x, x3, x4, x5, x6, x7] (Bx μ0 0 ds k)) from rfl)).trans h, _, _, _, _, _, _, _, rfl, rfl⟩) ⟨_, _, _, _, _, _, _, rfl, rfl⟩
  subst hρ hm
  refine fnB_any (seq_asg h1 (seq_nx (for_eq (irg_eq (j := 4) (n := 4) rfl (by omega) (μ' := Bx μ0 0 ds 0) (by rfl)) hl) (ret_eq rfl)))
end Fm
set_option Elab.async false
set_option linter.all false
set_option maxRecDepth 100000
namespace Fm
open PySem L2 PySem.Spec PyProof.Rows
/-- _compare -/
def b__compare : SF := (sSeq (sIf (bE (eOp (gEq false) (eVar 0) (eVar 1))) (sRet (eC (.int 0))) sNx)
    (sRet (eIf (bE (eOp gLtT (eVar 0) (eVar 1))) (eNeg (eC (.int 1))) (eC (.int 1)))))
noncomputable def F__compare : FN := fnB 2 (b__compare )
/-- _head -/
def b__head (f_kind_of f_size_of f__own_size : FN) : SF := (sSeq (sAsg (eDef f_kind_of (aCons (eVar 0) aNil)) (gN 1))
    (sSeq (sIf (bE (eOp (gEqF false) (eVar 1) (eC (.int 0)))) (sRet (eTup (aCons (eC (.int 1)) (aCons (eVar 1) (aCons (eB gAbs (aCons (eVar 0) aNil)) (aCons (eOp gLt (eVar 0) (eC (.int 0))) aNil)))))) sNx)
    (sSeq (sIf (bE (eOp (gEqF false) (eVar 1) (eC (.int 1)))) (sRet (eTup (aCons (eDef f__own_size (aCons (eVar 0) aNil)) (aCons (eVar 1) (aCons (eVar 0) aNil))))) sNx)
    (sRet (eTup (aCons (eDef f_size_of (aCons (eVar 0) aNil)) (aCons (eVar 1) aNil)))))))
noncomputable def F__head : FN := fnB 2 (b__head (F_kind_of) (F_size_of) (F__own_size))
/-- compare_values -/
def b_compare_values (f__compare f__head f__named_parts f_compare_values : FN) : SF := (sSeq (sAsg (eDef f__compare (aCons (eDef f__head (aCons (eVar 0) aNil)) (aCons (eDef f__head (aCons (eVar 1) aNil)) aNil))) (gN 2))
    (sSeq (sIf (bE (eOp (gEqF true) (eVar 2) (eC (.int 0)))) (sRet (eVar 2)) sNx)
    (sSeq (sFor (iZp (aCons (eDef f__named_parts (aCons (eVar 0) aNil)) (aCons (eDef f__named_parts (aCons (eVar 1) aNil)) aNil))) (gTp [3, 4]) (sSeq (sAsg (eDef f__compare (aCons (eOp gIx (eVar 3) (eC (.int 0))) (aCons (eOp gIx (eVar 4) (eC (.int 0))) aNil))) (gN 2))
    (sSeq (sIf (bE (eOp (gEqF false) (eVar 2) (eC (.int 0)))) (sAsg (eDef f_compare_values (aCons (eOp gIx (eVar 3) (eC (.int 1))) (aCons (eOp gIx (eVar 4) (eC (.int 1))) aNil))) (gN 2)) sNx)
    (sIf (bE (eOp (gEqF true) (eVar 2) (eC (.int 0)))) (sRet (eVar 2)) sNx))))
    (sRet (eC (.int 0))))))
noncomputable def F_compare_values : Nat → FN
  | 0 => fun _ _ => none
  | n + 1 => fnB 5 (b_compare_values (F__compare) (F__head) (F__named_parts) (F_compare_values n))
/-- copy_of -/
def b_copy_of (f_parts_of f_kind_of f__has_depth f_copy_of : FN) : SF := (sSeq (sIf (bE (eOp (gEqF false) (eDef f_kind_of (aCons (eVar 0) aNil)) (eC (.int 4)))) (sRet (eTup (aCons (eOp gIx (eVar 0) (eC (.int 0))) (aCons (eDef f_copy_of (aCons (eOp gIx (eVar 0) (eC (.int 1))) aNil)) aNil)))) sNx)
    (sSeq (sIf (bNot (bT (eDef f__has_depth (aCons (eVar 0) aNil)))) (sRet (eVar 0)) sNx)
    (sSeq (sAsg (eNew (cLst aNil)) (gN 1))
    (sSeq (sFor (iLst (eDef f_parts_of (aCons (eVar 0) aNil))) (gN 2) (sDrop (eBM yLst gApp (eVar 1) (aCons (eDef f_copy_of (aCons (eVar 2) aNil)) aNil))))
    (sFz 1 (sRet (eIf (bE (eOp (gEqF false) (eDef f_kind_of (aCons (eVar 0) aNil)) (eC (.int 2)))) (eVar 1) (eFz (cB gDZ (aCons (eFz (cB gSorted (aCons (eVar 0) aNil))) (aCons (eVar 1) aNil)))))))))))
noncomputable def F_copy_of : Nat → FN
  | 0 => fun _ _ => none
  | n + 1 => fnB 3 (b_copy_of (F_parts_of) (F_kind_of) (F__has_depth) (F_copy_of n))
/-- least_among -/
def b_least_among (f_compare_values : FN) : SF := (sSeq (sAsg (eC .non) (gN 1))
    (sSeq (sFor (iLst (eVar 0)) (gN 2) (sIf (bAnd (bE (eOp (g2or (gIsN true) (gIsB true)) (eVar 2) (eC .non))) (bOr (bE (eOp (g2or (gIsN false) (gIsB false)) (eVar 1) (eC .non))) (bE (eOp gLt (eDef f_compare_values (aCons (eVar 2) (aCons (eVar 1) aNil))) (eC (.int 0)))))) (sAsg (eVar 2) (gN 1)) sNx))
    (sRet (eVar 1))))
noncomputable def F_least_among : FN := fnB 3 (b_least_among (F_compare_values 3))
/-- least_of -/
def b_least_of (f_least_among f_copy_of : FN) : SF := (sSeq (sAsg (eDef f_least_among (aCons (eVar 0) aNil)) (gN 1))
    (sRet (eIf (bE (eOp (g2or (gIsN false) (gIsB false)) (eVar 1) (eC .non))) (eC .non) (eDef f_copy_of (aCons (eVar 1) aNil)))))
noncomputable def F_least_of : FN := fnB 2 (b_least_of (F_least_among) (F_copy_of 3))
/-- _law_sign -/
def b__law_sign : SF := (sSeq (sIf (bE (eOp gLt (eVar 0) (eVar 1))) (sRet (eNeg (eC (.int 1)))) sNx)
    (sSeq (sIf (bE (eOp gGt (eVar 0) (eVar 1))) (sRet (eC (.int 1))) sNx)
    (sRet (eC (.int 0)))))
noncomputable def F__law_sign : FN := fnB 2 (b__law_sign )
/-- _law_before -/
def b__law_before (f__law_sign f__law_parts f__law_size f__law_rank f__law_before : FN) : SF := (sSeq (sAsg (eDef f__law_sign (aCons (eDef f__law_size (aCons (eVar 0) aNil)) (aCons (eDef f__law_size (aCons (eVar 1) aNil)) aNil))) (gN 2))
    (sSeq (sIf (bE (eOp (gEqF false) (eVar 2) (eC (.int 0)))) (sAsg (eDef f__law_sign (aCons (eDef f__law_rank (aCons (eVar 0) aNil)) (aCons (eDef f__law_rank (aCons (eVar 1) aNil)) aNil))) (gN 2)) sNx)
    (sSeq (sIf (bE (eOp (gEqF true) (eVar 2) (eC (.int 0)))) (sRet (eVar 2)) sNx)
    (sSeq (sIf (bE (eOp (gEqF false) (eDef f__law_rank (aCons (eVar 0) aNil)) (eC (.int 0)))) (sRet (eDef f__law_sign (aCons (eOp gAdd (eOp (gIc cMul fun i j => .int (i * j)) (eC (.int 2)) (eB gAbs (aCons (eVar 0) aNil))) (eB gInt (aCons (eOp gLt (eVar 0) (eC (.int 0))) aNil))) (aCons (eOp gAdd (eOp (gIc cMul fun i j => .int (i * j)) (eC (.int 2)) (eB gAbs (aCons (eVar 1) aNil))) (eB gInt (aCons (eOp gLt (eVar 1) (eC (.int 0))) aNil))) aNil)))) sNx)
    (sSeq (sIf (bE (eOp (gEqF false) (eDef f__law_rank (aCons (eVar 0) aNil)) (eC (.int 1)))) (sRet (eDef f__law_sign (aCons (eVar 0) (aCons (eVar 1) aNil)))) sNx)
    (sSeq (sAsg (eFz (cLst (aCons (eC (.str "")) (aCons (eC (.str "")) aNil)))) (gN 3))
    (sSeq (sIf (bE (eOp (gEqF false) (eDef f__law_rank (aCons (eVar 0) aNil)) (eC (.int 4)))) (sSeq (sIf (bE (eOp (gEqF true) (eOp gIx (eVar 0) (eC (.int 0))) (eOp gIx (eVar 1) (eC (.int 0))))) (sRet (eDef f__law_sign (aCons (eOp gIx (eVar 0) (eC (.int 0))) (aCons (eOp gIx (eVar 1) (eC (.int 0))) aNil)))) sNx)
    (sRet (eDef f__law_before (aCons (eOp gIx (eVar 0) (eC (.int 1))) (aCons (eOp gIx (eVar 1) (eC (.int 1))) aNil))))) sNx)
    (sSeq (sAsg (eDef f__law_parts (aCons (eVar 0) aNil)) (gN 4))
    (sSeq (sAsg (eDef f__law_parts (aCons (eVar 1) aNil)) (gN 5))
    (sSeq (sFor (iRg rng1 (aCons (eB gMin (aCons (eB gLen (aCons (eVar 4) aNil)) (aCons (eB gLen (aCons (eVar 5) aNil)) aNil))) aNil)) (gN 6) (sSeq (sIf (bE (eOp (gEqF false) (eDef f__law_rank (aCons (eVar 0) aNil)) (eC (.int 3)))) (sAsg (eFz (cLst (aCons (eOp gIx (eFz (cB gSorted (aCons (eVar 0) aNil))) (eVar 6)) (aCons (eOp gIx (eFz (cB gSorted (aCons (eVar 1) aNil))) (eVar 6)) aNil)))) (gN 3)) sNx)
    (sSeq (sIf (bE (eOp (gEqF true) (eOp gIx (eVar 3) (eC (.int 0))) (eOp gIx (eVar 3) (eC (.int 1))))) (sRet (eDef f__law_sign (aCons (eOp gIx (eVar 3) (eC (.int 0))) (aCons (eOp gIx (eVar 3) (eC (.int 1))) aNil)))) sNx)
    (sSeq (sAsg (eDef f__law_before (aCons (eOp gIx (eVar 4) (eVar 6)) (aCons (eOp gIx (eVar 5) (eVar 6)) aNil))) (gN 2))
    (sIf (bE (eOp (gEqF true) (eVar 2) (eC (.int 0)))) (sRet (eVar 2)) sNx)))))
    (sRet (eDef f__law_sign (aCons (eB gLen (aCons (eVar 4) aNil)) (aCons (eB gLen (aCons (eVar 5) aNil)) aNil))))))))))))))
noncomputable def F__law_before : Nat → FN
  | 0 => fun _ _ => none
  | n + 1 => fnB 7 (b__law_before (F__law_sign) (F__law_parts) (F__law_size 3) (F_kind_of) (F__law_before n))
/-- law -/
def b_law_k02 (f_least_of f__law_digits f__law_value f__law_draw f_compare_values f__law_before f__law_rank : FN) : SF := (sSeq (sAsg (eNew (cLst (aCons (eDef f__law_digits (aCons (eVar 0) (aCons (eC (.int 0)) (aCons (eC (.int 63)) aNil)))) (aCons (eC (.int 0)) aNil)))) (gN 1))
    (sSeq (sAsg (eNew (cComp [8] (iRg rng1 (aCons (eC (.int 4)) aNil)) (gN 8) bTrue (eDef f__law_value (aCons (eVar 1) (aCons (eC (.int 2)) aNil))))) (gN 2))
    (sSeq (sPut setL (eOp gIx (eVar 2) (eDef f__law_draw (aCons (eVar 1) (aCons (eC (.int 4)) aNil)))) (eVar 2) (eDef f__law_draw (aCons (eVar 1) (aCons (eC (.int 4)) aNil))))
    (sFz 2 (sSeq (sFor (iLst (eVar 2)) (gN 3) (sFz 2 (sFor (iLst (eVar 2)) (gN 7) (sSeq (sAsg (eDef f_compare_values (aCons (eVar 3) (aCons (eVar 7) aNil))) (gN 9))
    (sSeq (sIf (bOr (bT (eIsi "bool" (eVar 9))) (bOr (bE (eOp (gInQ true) (eVar 9) (eFz (cLst (aCons (eNeg (eC (.int 1))) (aCons (eC (.int 0)) (aCons (eC (.int 1)) aNil))))))) (bE (eOp (gEq true) (eVar 9) (eDef f__law_before (aCons (eVar 3) (aCons (eVar 7) aNil))))))) (sRet (eC (.bl false))) sNx)
    (sIf (bOr (bE (eOp (gEq true) (eVar 9) (eOp (gI fun i j => .int (i - j)) (eC (.int 0)) (eDef f_compare_values (aCons (eVar 7) (aCons (eVar 3) aNil)))))) (bE (eOp (gEq true) (eOp (gEq false) (eVar 9) (eC (.int 0))) (eAnd (eOp (gEq false) (eDef f__law_rank (aCons (eVar 3) aNil)) (eDef f__law_rank (aCons (eVar 7) aNil))) (eOp (gEq false) (eVar 3) (eVar 7)))))) (sRet (eC (.bl false))) sNx))))))
    (sSeq (sAsg (eOp gIx (eVar 2) (eC (.int 0))) (gN 4))
    (sFz 2 (sSeq (sFor (iLst (eVar 2)) (gN 3) (sIf (bE (eOp gLt (eDef f__law_before (aCons (eVar 3) (aCons (eVar 4) aNil))) (eC (.int 0)))) (sAsg (eVar 3) (gN 4)) sNx))
    (sSeq (sAsg (eFz (cLst (aCons (eC .non) (aCons (eOp gIx (eVar 2) (eC (.int 0))) (aCons (eOp gIx (eVar 2) (eC (.int 1))) (aCons (eC .non) (aCons (eOp gIx (eVar 2) (eC (.int 2))) (aCons (eOp gIx (eVar 2) (eC (.int 3))) aNil)))))))) (gN 5))
    (sSeq (sAsg (eDef f_least_of (aCons (eVar 5) aNil)) (gN 6))
    (sSeq (sIf (bOr (bE (eOp (gEq true) (eDef f__law_rank (aCons (eVar 6) aNil)) (eDef f__law_rank (aCons (eVar 4) aNil)))) (bE (eOp (gEq true) (eVar 6) (eVar 4)))) (sRet (eC (.bl false))) sNx)
    (sRet (eAnd (eOp (g2or (gIsN false) (gIsB false)) (eDef f_least_of (aCons (eFz (cLst (aCons (eC .non) (aCons (eC .non) aNil)))) aNil)) (eC .non)) (eOp (g2or (gIsN false) (gIsB false)) (eDef f_least_of (aCons (eFz (cLst aNil)) aNil)) (eC .non)))))))))))))))
noncomputable def F_law_k02 : FN := fnB 10 (b_law_k02 (F_least_of) (F__law_digits) (F__law_value 3) (F__law_draw) (F_compare_values 3) (F__law_before 3) (F_kind_of))
end Fm
set_option Elab.async false
set_option linter.all false
set_option maxRecDepth 100000
namespace Fm
open PySem L2 PySem.Spec PyProof.Rows
/-! ### one step of an expression at a time -/
section
variable {f g : AF} {e e' : EF} {ρ ρ' : Rho} {μ μ' μ1 μ2 : Mu} {x y z : T} {xs : List T} {ds : List D} {fn : FN}
theorem an_nil : aNil ρ μ = some (.ok [] μ) := rfl
theorem an_cons (h : e ρ μ = some (.ok x μ1)) (h2 : f ρ μ1 = some (.ok xs μ2)) : aCons e f ρ μ = some (.ok (x :: xs) μ2) := by
  show mbind (e ρ) _ μ = _
  rw [mb_ok h]
  show mbind (f ρ) _ μ1 = _
  rw [mb_ok h2]
  rfl
theorem de_eq {r : Option (Rs T)} (h : f ρ μ = some (.ok xs μ1)) (h2 : fn xs μ1 = r) : eDef fn f ρ μ = r := by
  show mbind (f ρ) _ μ = _
  rw [mb_ok h, h2]
theorem v_eq {i : Nat} (h : slotT ρ i = some x) : eVar i ρ μ = some (.ok x μ) := by simp only [eVar, mof, h]
theorem fl_eq (h : f ρ μ = some (.ok (ds.map T.d) μ1)) (hl : ds.length ≤ SL) : eFz (cLst f) ρ μ = some (.ok (.d (.lst ds)) μ1) := by
  have : cLst f ρ μ = some (.ok (.lst (ds.map T.d)) μ1) := by
    show mbind (f ρ) _ μ = _
    rw [mb_ok h]
    simp only [mof, List.length_map]
    rw [if_pos hl]
  show mbind (cLst f ρ) _ μ = _
  rw [mb_ok this]
  exact fz_of ds
theorem tu_eq (h : f ρ μ = some (.ok (ds.map T.d) μ1)) (hl : ds.length ≤ SL) : eTup f ρ μ = some (.ok (.d (.tup ds)) μ1) := by
  show mbind (f ρ) _ μ = _
  rw [mb_ok h]
  simp only [dTs_d]
  simp
  exact hl
theorem bi_eq {g : Mu → List T → Option T} (h : f ρ μ = some (.ok xs μ1)) (h2 : g μ1 (xs.map (rd μ1)) = some x) : eB g f ρ μ = some (.ok x μ1) := by
  show mbind (f ρ) _ μ = _
  rw [mb_ok h]
  simp only [ofG, mof, h2]
section
variable {c d : TF} {r : Option (Rs Bool)} {rt : Option (Rs T)} {fa fb : EF} {b : Bool}
theorem band_t (h : c ρ μ = some (.ok true μ')) (h2 : d ρ μ' = r) : bAnd c d ρ μ = r := (mb_ok h).trans h2
theorem band_f (h : c ρ μ = some (.ok false μ')) : bAnd c d ρ μ = some (.ok false μ') := (mb_ok h).trans rfl
theorem bor_t (h : c ρ μ = some (.ok true μ')) : bOr c d ρ μ = some (.ok true μ') := (mb_ok h).trans rfl
theorem bor_f (h : c ρ μ = some (.ok false μ')) (h2 : d ρ μ' = r) : bOr c d ρ μ = r := (mb_ok h).trans h2
theorem bnot_eq (h : c ρ μ = some (.ok b μ')) : bNot c ρ μ = some (.ok (!b) μ') := (mb_ok h).trans rfl
theorem bt_eq {x : T} (h : e ρ μ = some (.ok x μ')) (h2 : truth μ' (rd μ' x) = some b) : bT e ρ μ = some (.ok b μ') := (mb_ok h).trans (by simp only [tOf, h2])
theorem eif_t (h : c ρ μ = some (.ok true μ')) (h2 : fa ρ μ' = rt) : eIf c fa fb ρ μ = rt := (mb_ok h).trans h2
theorem eif_f (h : c ρ μ = some (.ok false μ')) (h2 : fb ρ μ' = rt) : eIf c fa fb ρ μ = rt := (mb_ok h).trans h2
theorem eand_t (h : fa ρ μ = some (.ok (.d (.bl true)) μ')) (h2 : fb ρ μ' = rt) : eAnd fa fb ρ μ = rt := (mb_ok (be_eq h)).trans h2
theorem eand_f (h : fa ρ μ = some (.ok (.d (.bl false)) μ')) : eAnd fa fb ρ μ = some (.ok (.d (.bl false)) μ') := (mb_ok (be_eq h)).trans rfl
theorem eor_t (h : fa ρ μ = some (.ok (.d (.bl true)) μ')) : eOr fa fb ρ μ = some (.ok (.d (.bl true)) μ') := (mb_ok (be_eq h)).trans rfl
theorem eor_f (h : fa ρ μ = some (.ok (.d (.bl false)) μ')) (h2 : fb ρ μ' = rt) : eOr fa fb ρ μ = rt := (mb_ok (be_eq h)).trans h2
theorem enot_eq (h : fa ρ μ = some (.ok (.d (.bl b)) μ')) : eNot fa ρ μ = some (.ok (.d (.bl (!b))) μ') := (mb_ok (be_eq h)).trans rfl
theorem seq_if_t {f g k : SF} {R : Option (Rs (Fl × Rho))} {ρ1 : Rho} (h : c ρ μ = some (.ok true μ')) (h2 : f ρ μ' = some (.ok (.nx, ρ1) μ1)) (h3 : k ρ1 μ1 = R) : sSeq (sIf c f g) k ρ μ = R := seq_nx (if_t h h2) h3
theorem seq_if_f {f g k : SF} {R : Option (Rs (Fl × Rho))} {ρ1 : Rho} (h : c ρ μ = some (.ok false μ')) (h2 : g ρ μ' = some (.ok (.nx, ρ1) μ1)) (h3 : k ρ1 μ1 = R) : sSeq (sIf c f g) k ρ μ = R := seq_nx (if_f h h2) h3
end
end
end Fm
set_option Elab.async false
set_option linter.all false
set_option maxRecDepth 100000
namespace Fm
open PySem L2 PySem.Spec PyProof.Rows
/-! ### values as rows of signs, and their order -/
inductive Tk where
  | n (i : Int) | s (x : Str)
deriving DecidableEq
def Tk.lt : Tk → Tk → Bool
  | .n i, .n j => decide (i < j)
  | .s x, .s y => sLt x y
  | .n _, .s _ => true
  | .s _, .n _ => false
theorem sLt_irr (a : Str) : sLt a a = false := ltc_irr _
theorem sLt_tri (a b : Str) : sLt a b = true ∨ a = b ∨ sLt b a = true := by
  rcases ltc_tri a.cps.toList b.cps.toList with h | h | h
  · exact .inl h
  · exact .inr (.inl (str_ext h))
  · exact .inr (.inr h)
theorem sLt_asym {a b : Str} (h : sLt a b = true) : sLt b a = false := ltc_asym h
theorem sLt_trans {a b c : Str} (h : sLt a b = true) (h' : sLt b c = true) : sLt a c = true := ltc_trans h h'
theorem Tk.irr (a : Tk) : a.lt a = false := by
  cases a with
  | n i => simp [Tk.lt]
  | s x => exact sLt_irr x
theorem Tk.tri (a b : Tk) : a.lt b = true ∨ a = b ∨ b.lt a = true := by
  cases a with
  | n i => cases b with
    | n j =>
      simp only [Tk.lt, decide_eq_true_eq, Tk.n.injEq]
      omega
    | s y => exact .inl rfl
  | s x => cases b with
    | n j => exact .inr (.inr rfl)
    | s y =>
      simp only [Tk.lt, Tk.s.injEq]
      exact sLt_tri x y
theorem Tk.asym {a b : Tk} (h : a.lt b = true) : b.lt a = false := by
  cases a with
  | n i => cases b with
    | n j =>
      simp only [Tk.lt, decide_eq_true_eq, decide_eq_false_iff_not] at h ⊢
      omega
    | s y => rfl
  | s x => cases b with
    | n j => cases h
    | s y => exact sLt_asym h
theorem Tk.trans {a b c : Tk} (h : a.lt b = true) (h' : b.lt c = true) : a.lt c = true := by
  cases a <;> cases b <;> cases c <;> simp only [Tk.lt, decide_eq_true_eq] at h h' ⊢ <;> first | omega | exact sLt_trans h h' | exact Bool.noConfusion h | exact Bool.noConfusion h'
/-- rows in the order of their first difference -/
def kcmp : List Tk → List Tk → Int
  | [], [] => 0
  | [], _ :: _ => -1
  | _ :: _, [] => 1
  | x :: a, y :: b => if x = y then kcmp a b else if x.lt y = true then -1 else 1
theorem kcmp_self : ∀ a : List Tk, kcmp a a = 0
  | [] => rfl
  | x :: a => by rw [kcmp, if_pos rfl, kcmp_self a]
theorem kcmp_zero : ∀ {a b : List Tk}, kcmp a b = 0 → a = b
  | [], [], _ => rfl
  | [], _ :: _, h => by cases h
  | _ :: _, [], h => by cases h
  | x :: a, y :: b, h => by
    unfold kcmp at h
    split at h
    · rename_i e
      rw [e, kcmp_zero h]
    · split at h <;> cases h
theorem kcmp_eq0 {a b : List Tk} : kcmp a b = 0 ↔ a = b := ⟨kcmp_zero, fun h => h ▸ kcmp_self a⟩
theorem kcmp_val : ∀ a b : List Tk, kcmp a b = -1 ∨ kcmp a b = 0 ∨ kcmp a b = 1
  | [], [] => .inr (.inl rfl)
  | [], _ :: _ => .inl rfl
  | _ :: _, [] => .inr (.inr rfl)
  | x :: a, y :: b => by
    unfold kcmp
    split
    · exact kcmp_val a b
    · split
      · exact .inl rfl
      · exact .inr (.inr rfl)
theorem kcmp_neg : ∀ a b : List Tk, kcmp b a = - kcmp a b
  | [], [] => rfl
  | [], _ :: _ => rfl
  | _ :: _, [] => rfl
  | x :: a, y :: b => by
    by_cases e : x = y
    · subst e
      rw [kcmp, kcmp, if_pos rfl, if_pos rfl, kcmp_neg a b]
    · rw [kcmp, kcmp, if_neg e, if_neg fun z => e z.symm]
      rcases Tk.tri x y with h | h | h
      · rw [if_pos h, if_neg (by rw [Tk.asym h]; exact Bool.false_ne_true)]; rfl
      · exact absurd h e
      · rw [if_pos h, if_neg (by rw [Tk.asym h]; exact Bool.false_ne_true)]
theorem kcmp_pre : ∀ a l m : List Tk, kcmp (a ++ l) (a ++ m) = kcmp l m
  | [], _, _ => rfl
  | x :: a, l, m => by rw [List.cons_append, List.cons_append, kcmp, if_pos rfl, kcmp_pre a]
/-- where neither row can be the beginning of the other one, what follows does not matter -/
theorem kcmp_app : ∀ {a b : List Tk}, (∀ l m, a ++ l = b ++ m → a = b) → a ≠ b → ∀ l m, kcmp (a ++ l) (b ++ m) = kcmp a b
  | [], b, h, hn, l, m => absurd (h b [] (by simp)) hn
  | x :: a, [], h, hn, l, m => absurd (h [] (x :: a) (by simp)) hn
  | x :: a, y :: b, h, hn, l, m => by
    rw [List.cons_append, List.cons_append, kcmp, kcmp]
    by_cases e : x = y
    · subst e
      rw [if_pos rfl, if_pos rfl]
      refine kcmp_app (fun l m q => ?_) (fun q => hn (by rw [q])) l m
      have := h l m (by rw [List.cons_append, List.cons_append, q])
      injection this
    · rw [if_neg e, if_neg e]
theorem kcmp_trans : ∀ {a b c : List Tk}, kcmp a b = -1 → kcmp b c = -1 → kcmp a c = -1
  | [], [], c, h, _ => by cases h
  | [], _ :: _, [], _, h => by cases h
  | [], _ :: _, _ :: _, _, _ => rfl
  | _ :: _, [], _, h, _ => by cases h
  | _ :: _, _ :: _, [], _, h => by cases h
  | x :: a, y :: b, z :: c, h, h' => by
    unfold kcmp at h h' ⊢
    by_cases e : x = y
    · subst e
      rw [if_pos rfl] at h
      by_cases e2 : x = z
      · rw [if_pos e2] at h' ⊢
        exact kcmp_trans h h'
      · rw [if_neg e2] at h' ⊢
        exact h'
    · rw [if_neg e] at h
      have hl : x.lt y = true := by
        by_cases q : x.lt y = true
        · exact q
        · rw [if_neg q] at h; cases h
      by_cases e2 : y = z
      · subst e2
        rw [if_neg e, if_pos hl]
      · rw [if_neg e2] at h'
        have hl2 : y.lt z = true := by
          by_cases q : y.lt z = true
          · exact q
          · rw [if_neg q] at h'; cases h'
        have hl3 := Tk.trans hl hl2
        rw [if_neg (fun q => by rw [q, Tk.irr] at hl3; cases hl3), if_pos hl3]
/-! ### the row of a value -/
def Vl.hx : Vl → List Tk
  | .int i => [.n i.natAbs, .n (if i < 0 then 1 else 0)]
  | .str s => [.s s]
  | _ => []
def Vl.hd (v : Vl) : List Tk := .n v.size :: .n v.kind :: v.hx
def row (f : Vl → List Tk) (ps : List (Str × Vl)) : List Tk := ps.flatMap fun p => .s p.1 :: f p.2
def Vl.key : Nat → Vl → List Tk
  | 0, v => v.hd
  | n + 1, v => v.hd ++ row (Vl.key n) v.named
theorem named_wf {v : Vl} (h : v.Wf) : ∀ p ∈ v.named, p.2.Wf := fun p hp => parts_wf h p.2 (by rw [← named_parts]; exact List.mem_map.mpr ⟨p, hp, rfl⟩)
theorem named_dep {v : Vl} (h : v.Wf) {n : Nat} (hd : v.dep ≤ n + 1) : ∀ p ∈ v.named, p.2.dep ≤ n := fun p hp => parts_dep h hd p.2 (by rw [← named_parts]; exact List.mem_map.mpr ⟨p, hp, rfl⟩)
theorem named_nil {v : Vl} (hd : v.dep = 0) : v.named = [] := by
  have := dep_parts hd
  rw [← named_parts] at this
  exact List.map_eq_nil_iff.mp this
theorem named_flat {v : Vl} (hk : ¬ 2 ≤ v.kind) : v.named = [] := named_nil (dep_flat hk)
def nsum (ps : List (Str × Vl)) : Nat := (ps.map fun p => p.2.size).sum
theorem named_sum {v : Vl} (h : v.Wf) : v.size = v.own1 + nsum v.named := by
  rw [size_own h, ← named_parts, List.map_map]
  rfl
theorem hd_inj {a b : Vl} {l m : List Tk} (h : a.hd ++ l = b.hd ++ m) : a.size = b.size ∧ a.kind = b.kind ∧ a.hx = b.hx ∧ l = m := by
  have e1 : (a.size : Int) = b.size := by
    have := congrArg List.head? h
    simpa [Vl.hd] using this
  have e2 : a.kind = b.kind := by
    have := congrArg (fun l => l[1]?) h
    simpa [Vl.hd] using this
  have h3 : a.hx ++ l = b.hx ++ m := by simpa [Vl.hd, e1, e2] using h
  have hl : a.hx.length = b.hx.length := by
    cases a <;> cases b <;> simp [Vl.kind] at e2 <;> rfl
  have := List.append_inj h3 hl
  exact ⟨by omega, e2, this.1, this.2⟩
theorem hd_eq {a b : Vl} (h1 : a.size = b.size) (h2 : a.kind = b.kind) (h3 : a.hx = b.hx) : a.hd = b.hd := by
  unfold Vl.hd
  rw [h1, h2, h3]
/-- what is read of a row is read in one way -/
def UD (f : Vl → List Tk) (a b : Vl) : Prop := ∀ l m, f a ++ l = f b ++ m → f a = f b ∧ l = m
theorem row_pf {f : Vl → List Tk} : ∀ {ps qs : List (Str × Vl)} {l m : List Tk}, (∀ p ∈ ps, ∀ q ∈ qs, UD f p.2 q.2) → (∀ p ∈ ps, ∀ q ∈ qs, f p.2 = f q.2 → p.2.size = q.2.size) → (∀ p ∈ ps, 1 ≤ p.2.size) → (∀ p ∈ qs, 1 ≤ p.2.size) → nsum ps = nsum qs → row f ps ++ l = row f qs ++ m →
    row f ps = row f qs ∧ l = m
  | [], [], l, m, _, _, _, _, _, h => ⟨rfl, by simpa [row] using h⟩
  | [], q :: qs, l, m, _, _, _, h1, hs, _ => by
    have := h1 q List.mem_cons_self
    simp [nsum] at hs
    omega
  | p :: ps, [], l, m, _, _, h1, _, hs, _ => by
    have := h1 p List.mem_cons_self
    simp [nsum] at hs
    omega
  | p :: ps, q :: qs, l, m, hp, hz, h1, h2, hs, h => by
    have e0 : row f (p :: ps) = Tk.s p.1 :: (f p.2 ++ row f ps) := by simp [row]
    have e1 : row f (q :: qs) = Tk.s q.1 :: (f q.2 ++ row f qs) := by simp [row]
    rw [e0, e1] at h ⊢
    rw [List.cons_append, List.cons_append, List.append_assoc, List.append_assoc] at h
    injection h with h3 h4
    obtain ⟨h5, h6⟩ := hp p List.mem_cons_self q List.mem_cons_self _ _ h4
    have h7 := hz p List.mem_cons_self q List.mem_cons_self h5
    have hs' : nsum ps = nsum qs := by
      simp only [nsum, List.map_cons, List.sum_cons] at hs ⊢
      omega
    obtain ⟨h8, h9⟩ := row_pf (f := f) (ps := ps) (qs := qs) (fun x hx y hy => hp x (List.mem_cons_of_mem _ hx) y (List.mem_cons_of_mem _ hy)) (fun x hx y hy => hz x (List.mem_cons_of_mem _ hx) y (List.mem_cons_of_mem _ hy)) (fun x hx => h1 x (List.mem_cons_of_mem _ hx)) (fun x hx => h2 x (List.mem_cons_of_mem _ hx)) hs' h6
    exact ⟨by rw [h3, h5, h8], h9⟩
theorem key_hd (n : Nat) (v : Vl) : ∃ r, v.key n = v.hd ++ r := by
  cases n with
  | zero => exact ⟨[], by simp [Vl.key]⟩
  | succ n => exact ⟨_, rfl⟩
theorem key_size {n : Nat} {a b : Vl} (h : a.key n = b.key n) : a.size = b.size := by
  obtain ⟨r, h1⟩ := key_hd n a
  obtain ⟨r', h2⟩ := key_hd n b
  rw [h1, h2] at h
  exact (hd_inj h).1
theorem own1_kind {a b : Vl} (hk : a.kind = b.kind) (hx : a.hx = b.hx) : a.own1 = b.own1 := by
  cases a <;> cases b <;> simp [Vl.kind] at hk <;> try rfl
  simp only [Vl.hx, List.cons.injEq, Tk.s.injEq, and_true] at hx
  subst hx
  rfl
theorem key_pf : ∀ (n : Nat) {a b : Vl}, a.Wf → b.Wf → a.dep ≤ n → b.dep ≤ n → UD (Vl.key n) a b
  | 0, a, b, wa, wb, da, db => fun l m h => by
    obtain ⟨h1, h2, h3, h4⟩ := hd_inj (show a.hd ++ l = b.hd ++ m from h)
    exact ⟨hd_eq h1 h2 h3, h4⟩
  | n + 1, a, b, wa, wb, da, db => fun l m h => by
    simp only [Vl.key, List.append_assoc] at h
    obtain ⟨h1, h2, h3, h4⟩ := hd_inj h
    have hs : nsum a.named = nsum b.named := by
      have e1 := named_sum wa
      have e2 := named_sum wb
      have e3 := own1_kind h2 h3
      omega
    obtain ⟨h5, h6⟩ := row_pf (fun p hp q hq => key_pf n (named_wf wa p hp) (named_wf wb q hq) (named_dep wa da p hp) (named_dep wb db q hq)) (fun p _ q _ e => key_size e) (fun p hp => size_pos (named_wf wa p hp)) (fun p hp => size_pos (named_wf wb p hp)) hs h4
    exact ⟨by rw [Vl.key, Vl.key, h5, hd_eq h1 h2 h3], h6⟩
/-- part by part -/
def lcmp (f : Vl → Vl → Int) : List (Str × Vl) → List (Str × Vl) → Int
  | p :: ps, q :: qs => if p.1 = q.1 then (if f p.2 q.2 = 0 then lcmp f ps qs else f p.2 q.2) else if sLt p.1 q.1 = true then -1 else 1
  | _, _ => 0
theorem row_cmp {f : Vl → List Tk} : ∀ {ps qs : List (Str × Vl)}, (∀ p ∈ ps, ∀ q ∈ qs, UD f p.2 q.2) → (∀ p ∈ ps, ∀ q ∈ qs, f p.2 = f q.2 → p.2.size = q.2.size) → (∀ p ∈ ps, 1 ≤ p.2.size) → (∀ p ∈ qs, 1 ≤ p.2.size) → nsum ps = nsum qs →
    lcmp (fun a b => kcmp (f a) (f b)) ps qs = kcmp (row f ps) (row f qs)
  | [], [], _, _, _, _, _ => rfl
  | [], q :: qs, _, _, _, h1, hs => by
    have := h1 q List.mem_cons_self
    simp [nsum] at hs
    omega
  | p :: ps, [], _, _, h1, _, hs => by
    have := h1 p List.mem_cons_self
    simp [nsum] at hs
    omega
  | p :: ps, q :: qs, hp, hz, h1, h2, hs => by
    have e0 : row f (p :: ps) = Tk.s p.1 :: (f p.2 ++ row f ps) := by simp [row]
    have e1 : row f (q :: qs) = Tk.s q.1 :: (f q.2 ++ row f qs) := by simp [row]
    rw [e0, e1, lcmp, kcmp]
    by_cases e : p.1 = q.1
    · rw [if_pos e, if_pos (show Tk.s p.1 = Tk.s q.1 by rw [e])]
      by_cases ek : f p.2 = f q.2
      · have h7 := hz p List.mem_cons_self q List.mem_cons_self ek
        have hs' : nsum ps = nsum qs := by
          simp only [nsum, List.map_cons, List.sum_cons] at hs ⊢
          omega
        rw [if_pos (kcmp_eq0.mpr ek), ek, kcmp_pre]
        exact row_cmp (fun x hx y hy => hp x (List.mem_cons_of_mem _ hx) y (List.mem_cons_of_mem _ hy)) (fun x hx y hy => hz x (List.mem_cons_of_mem _ hx) y (List.mem_cons_of_mem _ hy)) (fun x hx => h1 x (List.mem_cons_of_mem _ hx)) (fun x hx => h2 x (List.mem_cons_of_mem _ hx)) hs'
      · rw [if_neg (fun z => ek (kcmp_eq0.mp z)), kcmp_app (fun l m q => (hp p List.mem_cons_self _ List.mem_cons_self l m q).1) ek]
    · rw [if_neg e, if_neg (show ¬ Tk.s p.1 = Tk.s q.1 from fun z => e (by injection z))]
      rfl
/-- the order: what is ahead of the parts, then the parts -/
theorem key_cmp {n : Nat} {a b : Vl} (wa : a.Wf) (wb : b.Wf) (da : a.dep ≤ n + 1) (db : b.dep ≤ n + 1) :
    kcmp (a.key (n + 1)) (b.key (n + 1)) = if a.hd = b.hd then lcmp (fun x y => kcmp (x.key n) (y.key n)) a.named b.named else kcmp a.hd b.hd := by
  rw [Vl.key, Vl.key]
  by_cases e : a.hd = b.hd
  · obtain ⟨h1, h2, h3, _⟩ := hd_inj (a := a) (b := b) (l := []) (m := []) (by rw [e])
    have hs : nsum a.named = nsum b.named := by
      have e1 := named_sum wa
      have e2 := named_sum wb
      have e3 := own1_kind h2 h3
      omega
    rw [if_pos e, e, kcmp_pre]
    exact (row_cmp (fun p hp q hq => key_pf n (named_wf wa p hp) (named_wf wb q hq) (named_dep wa da p hp) (named_dep wb db q hq)) (fun p _ q _ e => key_size e) (fun p hp => size_pos (named_wf wa p hp)) (fun p hp => size_pos (named_wf wb p hp)) hs).symm
  · rw [if_neg e]
    refine kcmp_app (fun l m h => ?_) e _ _
    obtain ⟨h1, h2, h3, _⟩ := hd_inj h
    exact hd_eq h1 h2 h3
end Fm
set_option Elab.async false
set_option linter.all false
set_option maxRecDepth 100000
namespace Fm
open PySem L2 PySem.Spec PyProof.Rows
/-! ### == of values -/
def nk (f : Vl → List Tk) (ps : List (Str × Vl)) : List (Str × List Tk) := ps.map fun p => (p.1, f p.2)
theorem row_nk (f : Vl → List Tk) (ps : List (Str × Vl)) : row f ps = (nk f ps).flatMap fun p => .s p.1 :: p.2 := by
  unfold row nk
  rw [List.flatMap_map]
theorem row_fwd {f : Vl → List Tk} : ∀ {ps qs : List (Str × Vl)}, (∀ p ∈ ps, ∀ q ∈ qs, UD f p.2 q.2) → (∀ p ∈ ps, ∀ q ∈ qs, f p.2 = f q.2 → p.2.size = q.2.size) → (∀ p ∈ ps, 1 ≤ p.2.size) → (∀ p ∈ qs, 1 ≤ p.2.size) → nsum ps = nsum qs → row f ps = row f qs → nk f ps = nk f qs
  | [], [], _, _, _, _, _, _ => rfl
  | [], q :: qs, _, _, _, h1, hs, _ => by
    have := h1 q List.mem_cons_self
    simp [nsum] at hs
    omega
  | p :: ps, [], _, _, h1, _, hs, _ => by
    have := h1 p List.mem_cons_self
    simp [nsum] at hs
    omega
  | p :: ps, q :: qs, hp, hz, h1, h2, hs, h => by
    have e0 : row f (p :: ps) = Tk.s p.1 :: (f p.2 ++ row f ps) := by simp [row]
    have e1 : row f (q :: qs) = Tk.s q.1 :: (f q.2 ++ row f qs) := by simp [row]
    rw [e0, e1] at h
    injection h with h3 h4
    injection h3 with h3
    obtain ⟨h5, h6⟩ := hp p List.mem_cons_self q List.mem_cons_self _ _ h4
    have h7 := hz p List.mem_cons_self q List.mem_cons_self h5
    have hs' : nsum ps = nsum qs := by
      simp only [nsum, List.map_cons, List.sum_cons] at hs ⊢
      omega
    have h8 := row_fwd (f := f) (ps := ps) (qs := qs) (fun x hx y hy => hp x (List.mem_cons_of_mem _ hx) y (List.mem_cons_of_mem _ hy)) (fun x hx y hy => hz x (List.mem_cons_of_mem _ hx) y (List.mem_cons_of_mem _ hy)) (fun x hx => h1 x (List.mem_cons_of_mem _ hx)) (fun x hx => h2 x (List.mem_cons_of_mem _ hx)) hs' h6
    unfold nk at h8 ⊢
    rw [List.map_cons, List.map_cons, h3, h5, h8]
theorem nk_sum {f : Vl → List Tk} : ∀ {ps qs : List (Str × Vl)}, (∀ p ∈ ps, ∀ q ∈ qs, f p.2 = f q.2 → p.2.size = q.2.size) → nk f ps = nk f qs → nsum ps = nsum qs
  | [], [], _, _ => rfl
  | [], q :: qs, _, h => by cases h
  | p :: ps, [], _, h => by cases h
  | p :: ps, q :: qs, hz, h => by
    unfold nk at h
    rw [List.map_cons, List.map_cons] at h
    injection h with h1 h2
    injection h1 with h3 h4
    have h5 := hz p List.mem_cons_self q List.mem_cons_self h4
    have h6 := nk_sum (f := f) (ps := ps) (qs := qs) (fun x hx y hy => hz x (List.mem_cons_of_mem _ hx) y (List.mem_cons_of_mem _ hy)) h2
    simp only [nsum, List.map_cons, List.sum_cons] at h6 ⊢
    omega
theorem key_iff {n : Nat} {a b : Vl} (wa : a.Wf) (wb : b.Wf) (da : a.dep ≤ n + 1) (db : b.dep ≤ n + 1) :
    a.key (n + 1) = b.key (n + 1) ↔ a.kind = b.kind ∧ a.hx = b.hx ∧ nk (Vl.key n) a.named = nk (Vl.key n) b.named := by
  have e1 := named_sum wa
  have e2 := named_sum wb
  constructor
  · intro h
    rw [Vl.key, Vl.key] at h
    obtain ⟨h1, h2, h3, h4⟩ := hd_inj h
    have e3 := own1_kind h2 h3
    exact ⟨h2, h3, row_fwd (fun p hp q hq => key_pf n (named_wf wa p hp) (named_wf wb q hq) (named_dep wa da p hp) (named_dep wb db q hq)) (fun p _ q _ e => key_size e) (fun p hp => size_pos (named_wf wa p hp)) (fun p hp => size_pos (named_wf wb p hp)) (by omega) h4⟩
  · rintro ⟨h2, h3, h4⟩
    have e3 := own1_kind h2 h3
    have e4 := nk_sum (fun p _ q _ e => key_size e) h4
    rw [Vl.key, Vl.key, hd_eq (by omega) h2 h3, row_nk, row_nk, h4]
theorem key0_iff {a b : Vl} (wa : a.Wf) (wb : b.Wf) (da : a.dep = 0) (db : b.dep = 0) : a.key 0 = b.key 0 ↔ a.kind = b.kind ∧ a.hx = b.hx := by
  have e1 := named_sum wa
  have e2 := named_sum wb
  rw [named_nil da] at e1
  rw [named_nil db] at e2
  constructor
  · intro h
    have h : a.hd ++ [] = b.hd ++ [] := by rw [List.append_nil, List.append_nil]; exact h
    obtain ⟨h1, h2, h3, h4⟩ := hd_inj h
    exact ⟨h2, h3⟩
  · rintro ⟨h2, h3⟩
    have e3 := own1_kind h2 h3
    exact hd_eq (by simp [nsum] at e1 e2; omega) h2 h3
theorem key_kind {n : Nat} {a b : Vl} (h : a.key n = b.key n) : a.kind = b.kind := by
  obtain ⟨r, h1⟩ := key_hd n a
  obtain ⟨r', h2⟩ := key_hd n b
  rw [h1, h2] at h
  exact (hd_inj h).2.1
theorem zipO_map {f : D → D → Option Bool} {g : Vl → List Tk} : ∀ {xs ys : List Vl}, (∀ x ∈ xs, ∀ y ∈ ys, f x.D y.D = some (decide (g x = g y))) → xs.length = ys.length → zipO f (xs.map Vl.D) (ys.map Vl.D) = some (decide (xs.map g = ys.map g))
  | [], [], _, _ => rfl
  | [], _ :: _, _, h => by cases h
  | _ :: _, [], _, h => by cases h
  | x :: xs, y :: ys, h, hl => by
    have h1 := h x List.mem_cons_self y List.mem_cons_self
    have h2 := zipO_map (xs := xs) (ys := ys) (fun a ha b hb => h a (List.mem_cons_of_mem _ ha) b (List.mem_cons_of_mem _ hb)) (by simpa using hl)
    rw [List.map_cons, List.map_cons, zipO, h1, h2]
    simp [List.map_cons, Bool.decide_and]
theorem valD_get {ls : List (Str × Vl)} (k : Str) : valD (Vl.Dk ls) (.inr k) = if k ∈ ls.map (·.1) then some (fget ls k).D else none := by
  induction ls with
  | nil => rfl
  | cons p r ih =>
    obtain ⟨m, v⟩ := p
    unfold valD fget at ih ⊢
    by_cases e : m = k
    · subst e
      simp [Vl.Dk]
    · simp only [Vl.Dk, List.find?_cons, List.map_cons, List.mem_cons]
      rw [show decide ((Sum.inr m : Key) = Sum.inr k) = false from decide_eq_false fun z => e (Sum.inr.inj z), show decide (m = k) = false from decide_eq_false e]
      simp only [show ¬ k = m from fun z => e z.symm, false_or]
      exact ih
theorem dctO_all {f : D → D → Option Bool} {L : List (Key × D)} {g : Key × D → Bool} : ∀ {K : List (Key × D)}, (∀ p ∈ K, (valD L p.1 = none → g p = false) ∧ ∀ y, valD L p.1 = some y → f p.2 y = some (g p)) → dctO f L K = some (K.all g)
  | [], _ => rfl
  | (k, x) :: r, h => by
    obtain ⟨h1, h2⟩ := h _ List.mem_cons_self
    have h3 := dctO_all (f := f) (L := L) (g := g) (K := r) fun p hp => h p (List.mem_cons_of_mem _ hp)
    unfold dctO
    cases hv : valD L k with
    | none => rw [h3]; simp [h1 hv]
    | some y => simp [h2 y hv, h3]
theorem fsort_names (ks : List (Str × Vl)) : (fsort ks).map (·.1) = sortS (ks.map (·.1)) := by
  unfold fsort
  rw [List.map_map]
  simp [Function.comp_def]
theorem nk_fsort {f : Vl → List Tk} {ks ls : List (Str × Vl)} : nk f (fsort ks) = nk f (fsort ls) ↔ sortS (ks.map (·.1)) = sortS (ls.map (·.1)) ∧ ∀ n ∈ ks.map (·.1), f (fget ks n) = f (fget ls n) := by
  constructor
  · intro h
    have h1 : sortS (ks.map (·.1)) = sortS (ls.map (·.1)) := by
      have := congrArg (List.map (·.1)) h
      unfold nk at this
      rw [List.map_map, List.map_map] at this
      rw [← fsort_names, ← fsort_names]
      exact this
    refine ⟨h1, fun n hn => ?_⟩
    unfold nk fsort at h
    rw [← h1, List.map_map, List.map_map] at h
    have h2 := List.map_inj_left.mp h n ((sortS_perm _).mem_iff.mpr hn)
    simpa using h2
  · rintro ⟨h1, h2⟩
    unfold nk fsort
    rw [← h1, List.map_map, List.map_map]
    refine List.map_congr_left fun n hn => ?_
    simp [h2 n ((sortS_perm _).mem_iff.mp hn)]
theorem nodup_sub : ∀ {l m : List Str}, l.Nodup → (∀ x ∈ l, x ∈ m) → l.length = m.length → l.Perm m
  | [], m, _, _, hl => by
    rw [List.length_eq_zero_iff.mp (show m.length = 0 by simpa using hl.symm)]
  | x :: l, m, h, hs, hl => by
    obtain ⟨h1, h2⟩ := List.nodup_cons.mp h
    have hx := hs x List.mem_cons_self
    have hp := List.perm_cons_erase hx
    refine List.Perm.trans (List.Perm.cons x (nodup_sub h2 (fun y hy => ?_) ?_)) hp.symm
    · exact (List.mem_erase_of_ne fun z => h1 (by rw [← z]; exact hy)).mpr (hs y (List.mem_cons_of_mem _ hy))
    · have := hp.length_eq
      simp only [List.length_cons] at this hl
      omega
theorem rc_eq {n : Nat} {ks ls : List (Str × Vl)} (nk1 : (ks.map (·.1)).Nodup) (nl : (ls.map (·.1)).Nodup) (h : ∀ p ∈ ks, ∀ q ∈ ls, deq n p.2.D q.2.D = some (decide (p.2.key n = q.2.key n))) :
    deq (n + 1) (.dct (Vl.Dk ks)) (.dct (Vl.Dk ls)) = some (decide (nk (Vl.key n) (fsort ks) = nk (Vl.key n) (fsort ls))) := by
  have hmem : ∀ {m : List (Str × Vl)} {k : Str}, (m.map (·.1)).Nodup → k ∈ m.map (·.1) → (k, fget m k) ∈ m := fun {m k} hn hk => by
    obtain ⟨p, hp, e⟩ := List.mem_map.mp hk
    subst e
    rw [fget_mem hn (v := p.2) hp]
    exact hp
  show (dctO (deq n) (Vl.Dk ls) (Vl.Dk ks)).map _ = _
  have hd := dctO_all (f := deq n) (L := Vl.Dk ls) (K := Vl.Dk ks) (g := fun p => match p.1 with
    | .inr k => decide (k ∈ ls.map (·.1)) && decide ((fget ks k).key n = (fget ls k).key n)
    | .inl _ => false) (by
    intro p hp
    rw [Vl.Dk_map] at hp
    obtain ⟨q, hq, e⟩ := List.mem_map.mp hp
    subst e
    simp only [valD_get]
    by_cases hk : q.1 ∈ ls.map (·.1)
    · rw [if_pos hk]
      refine ⟨fun z => absurd z (by simp), fun y hy => ?_⟩
      obtain rfl := Option.some.inj hy
      rw [fget_mem nk1 (v := q.2) hq, h q hq _ (hmem nl hk)]
      simp [hk]
    · rw [if_neg hk]
      exact ⟨fun _ => by simp [hk], fun y hy => absurd hy (by simp)⟩)
  rw [hd, Option.map_some]
  congr 1
  have l1 : (Vl.Dk ks).length = ks.length := by rw [Vl.Dk_map, List.length_map]
  have l2 : (Vl.Dk ls).length = ls.length := by rw [Vl.Dk_map, List.length_map]
  rw [Bool.eq_iff_iff, decide_eq_true_eq, nk_fsort, Bool.and_eq_true, decide_eq_true_eq, l1, l2, List.all_eq_true]
  constructor
  · rintro ⟨hl, ha⟩
    have hall : ∀ k ∈ ks.map (·.1), k ∈ ls.map (·.1) ∧ (fget ks k).key n = (fget ls k).key n := by
      intro k hk
      obtain ⟨p, hp, e⟩ := List.mem_map.mp hk
      subst e
      have := ha (Sum.inr p.1, p.2.D) (by rw [Vl.Dk_map]; exact List.mem_map.mpr ⟨p, hp, rfl⟩)
      simpa using this
    refine ⟨?_, fun k hk => (hall k hk).2⟩
    have hp := nodup_sub nk1 (fun x hx => (hall x hx).1) (by rw [List.length_map, List.length_map]; exact hl)
    exact srt_uniq (sortS_srt _) (sortS_srt _) ((sortS_perm _).trans (hp.trans (sortS_perm _).symm))
  · rintro ⟨h1, h2⟩
    have hp : (ks.map (·.1)).Perm (ls.map (·.1)) := (sortS_perm _).symm.trans (h1 ▸ sortS_perm _)
    refine ⟨by have := hp.length_eq; rwa [List.length_map, List.length_map] at this, fun p hp2 => ?_⟩
    rw [Vl.Dk_map] at hp2
    obtain ⟨q, hq, e⟩ := List.mem_map.mp hp2
    subst e
    have hk : q.1 ∈ ks.map (·.1) := List.mem_map.mpr ⟨q, hq, rfl⟩
    have h3 := hp.mem_iff.mp hk
    simp [h2 _ hk] at h3 ⊢
    exact h3
theorem deq_str2 (n : Nat) (s t : Str) : deq n (.str s) (.str t) = some (decide (s = t)) := by
  cases n <;> simp [deq, feq, mixed, ki] <;> rfl
theorem deq_int2 (n : Nat) (s t : Int) : deq n (.int s) (.int t) = some (decide (s = t)) := by
  cases n <;> simp [deq, feq, mixed, ki] <;> rfl
theorem int_hx {i j : Int} : (Vl.int i).hx = (Vl.int j).hx ↔ i = j := by
  simp only [Vl.hx, List.cons.injEq, Tk.n.injEq, and_true]
  constructor
  · rintro ⟨h1, h2⟩
    split at h2 <;> split at h2 <;> omega
  · rintro rfl
    exact ⟨rfl, rfl⟩
theorem deq_diff {n : Nat} {a b : Vl} (h : a.kind ≠ b.kind) (hn : 1 ≤ n ∨ (a.dep = 0 ∧ b.dep = 0)) : deq n a.D b.D = some false := by
  cases n with
  | zero =>
    rcases hn with hn | ⟨h1, h2⟩
    · omega
    · cases a <;> simp only [Vl.dep] at h1 <;> first | omega | skip
      all_goals cases b <;> simp only [Vl.dep] at h2 <;> first | omega | skip
      all_goals first | exact absurd rfl h | rfl
  | succ n =>
    cases a <;> cases b <;> first | exact absurd rfl h | (simp [Vl.D, deq, feq, mixed, ki])
theorem deq_key : ∀ (n : Nat) {a b : Vl}, a.Wf → b.Wf → a.dep ≤ n → b.dep ≤ n → deq n a.D b.D = some (decide (a.key n = b.key n))
  | 0, a, b, wa, wb, da, db => by
    by_cases hk : a.kind = b.kind
    · have e0 : decide (a.key 0 = b.key 0) = decide (a.kind = b.kind ∧ a.hx = b.hx) := decide_eq_decide.mpr (key0_iff wa wb (by omega) (by omega))
      rw [e0]
      simp only [hk, true_and]
      cases a <;> simp only [Vl.dep] at da <;> first | omega | skip
      all_goals cases b <;> simp only [Vl.dep] at db <;> first | omega | skip
      all_goals first | (simp [Vl.kind] at hk; done) | skip
      · rw [decide_eq_decide.mpr int_hx]; exact deq_int2 0 _ _
      · simp only [Vl.hx, List.cons.injEq, Tk.s.injEq, and_true]; exact deq_str2 0 _ _
    · rw [deq_diff hk (.inr ⟨by omega, by omega⟩), decide_eq_false fun z => hk (key_kind z)]
  | n + 1, a, b, wa, wb, da, db => by
    by_cases hk : a.kind = b.kind
    · have e0 : decide (a.key (n + 1) = b.key (n + 1)) = decide (a.kind = b.kind ∧ a.hx = b.hx ∧ nk (Vl.key n) a.named = nk (Vl.key n) b.named) := decide_eq_decide.mpr (key_iff wa wb da db)
      rw [e0]
      simp only [hk, true_and]
      have ih := fun (p q : Str × Vl) (hp : p ∈ a.named) (hq : q ∈ b.named) => deq_key n (named_wf wa p hp) (named_wf wb q hq) (named_dep wa da p hp) (named_dep wb db q hq)
      cases a with
      | int i =>
        cases b <;> first | (simp [Vl.kind] at hk; done) | skip
        simp only [Vl.named, nk, List.map_nil, and_true]
        rw [decide_eq_decide.mpr int_hx]
        exact deq_int2 _ _ _
      | str i =>
        cases b <;> first | (simp [Vl.kind] at hk; done) | skip
        simp only [Vl.named, nk, List.map_nil, and_true, Vl.hx, List.cons.injEq, Tk.s.injEq]
        exact deq_str2 _ _ _
      | lst xs =>
        cases b <;> first | (simp [Vl.kind] at hk; done) | skip
        rename_i ys
        simp only [Vl.hx, true_and]
        have e : (nk (Vl.key n) (Vl.lst xs).named = nk (Vl.key n) (Vl.lst ys).named) ↔ xs.map (Vl.key n) = ys.map (Vl.key n) := by
          simp only [Vl.named, nk, List.map_map]
          constructor
          · intro h
            have := congrArg (List.map (·.2)) h
            rw [List.map_map, List.map_map] at this
            exact this
          · intro h
            have := congrArg (List.map fun t => (("" : Str), t)) h
            rw [List.map_map, List.map_map] at this
            exact this
        rw [decide_eq_decide.mpr e]
        show (if (Vl.Ds xs).length = (Vl.Ds ys).length then zipO (deq n) (Vl.Ds xs) (Vl.Ds ys) else some false) = _
        rw [Vl.Ds_map, Vl.Ds_map]
        by_cases hl : xs.length = ys.length
        · rw [if_pos (by rw [List.length_map, List.length_map]; exact hl)]
          exact zipO_map (fun x hx y hy => ih ("", x) ("", y) (List.mem_map.mpr ⟨x, hx, rfl⟩) (List.mem_map.mpr ⟨y, hy, rfl⟩)) hl
        · rw [if_neg (by rw [List.length_map, List.length_map]; exact hl), decide_eq_false]
          intro z
          have := congrArg List.length z
          rw [List.length_map, List.length_map] at this
          exact hl this
      | rc ks =>
        cases b <;> first | (simp [Vl.kind] at hk; done) | skip
        rename_i ls
        simp only [Vl.hx, true_and]
        refine rc_eq wa.2.1 wb.2.1 fun p hp q hq => ih p q ((fsort_perm wa.2.1).mem_iff.mpr hp) ((fsort_perm wb.2.1).mem_iff.mpr hq)
      | tag s v =>
        cases b <;> first | (simp [Vl.kind] at hk; done) | skip
        rename_i t w
        have := ih (s, v) (t, w) List.mem_cons_self List.mem_cons_self
        show (zipO (deq n) [.str s, v.D] [.str t, w.D]).map _ = _
        simp [zipO, deq_str2, this, Vl.hx, Vl.named, nk, Bool.decide_and]
    · rw [deq_diff hk (.inl (by omega)), decide_eq_false fun z => hk (key_kind z)]
end Fm
set_option Elab.async false
set_option linter.all false
set_option maxRecDepth 100000
namespace Fm
open PySem L2 PySem.Spec PyProof.Rows
/-! ### _head, _compare -/
def tkD : D → Tk
  | .int i => .n i
  | .bl b => .n (if b = true then 1 else 0)
  | .str s => .s s
  | _ => .n 0
theorem deq_bl2 (n : Nat) (s t : Bool) : deq n (.bl s) (.bl t) = some (decide (s = t)) := by
  cases n <;> cases s <;> cases t <;> rfl
theorem deq_is (n : Nat) (s : Int) (t : Str) : deq n (.int s) (.str t) = some false := by
  cases n <;> rfl
theorem deq_si (n : Nat) (s : Int) (t : Str) : deq n (.str t) (.int s) = some false := by
  cases n <;> rfl
/-- alike things, or a number and a text -/
def Fl2 (x y : D) : Prop := (∃ i j, x = .int i ∧ y = .int j) ∨ (∃ i j, x = .str i ∧ y = .str j) ∨ (∃ i j, x = .bl i ∧ y = .bl j)
def Fl3 (x y : D) : Prop := Fl2 x y ∨ (∃ i j, x = .int i ∧ y = .str j) ∨ ∃ i j, x = .str i ∧ y = .int j
theorem fl3_deq {x y : D} (h : Fl3 x y) (n : Nat) : deq n x y = some (decide (tkD x = tkD y)) := by
  rcases h with (⟨i, j, rfl, rfl⟩ | ⟨i, j, rfl, rfl⟩ | ⟨i, j, rfl, rfl⟩) | ⟨i, j, rfl, rfl⟩ | ⟨i, j, rfl, rfl⟩
  · rw [deq_int2]; simp [tkD]
  · rw [deq_str2]; simp [tkD]
  · rw [deq_bl2]; cases i <;> cases j <;> simp [tkD]
  · rw [deq_is]; simp [tkD]
  · rw [deq_si]; simp [tkD]
theorem fl2_dlt {x y : D} (h : Fl2 x y) (n : Nat) : dlt n x y = some ((tkD x).lt (tkD y)) := by
  rcases h with ⟨i, j, rfl, rfl⟩ | ⟨i, j, rfl, rfl⟩ | ⟨i, j, rfl, rfl⟩
  · cases n <;> rfl
  · cases n <;> (show some (ltS i j) = _) <;> rw [ltS_eq] <;> rfl
  · cases n <;> cases i <;> cases j <;> rfl
def Zf : List D → List D → Prop
  | x :: xs, y :: ys => Fl3 x y ∧ Zf xs ys
  | _, _ => True
theorem zip_tk {n : Nat} : ∀ {xs ys : List D}, Zf xs ys → (zipO (deq n) xs ys).map (fun b => b && decide (xs.length = ys.length)) = some (decide (xs.map tkD = ys.map tkD))
  | [], [], _ => rfl
  | [], _ :: _, _ => rfl
  | _ :: _, [], _ => rfl
  | x :: xs, y :: ys, h => by
    have h1 := fl3_deq h.1 n
    have h2 := zip_tk (n := n) h.2
    rw [zipO, h1]
    cases hz : zipO (deq n) xs ys with
    | none => rw [hz] at h2; cases h2
    | some c =>
      rw [hz] at h2
      simp only [Option.map_some, Option.some.injEq] at h2 ⊢
      simp only [List.map_cons, List.length_cons, Nat.add_right_cancel_iff, List.cons.injEq, Bool.decide_and, Bool.and_assoc, h2]
/-- up to the first difference -/
def Cm : List D → List D → Prop
  | x :: xs, y :: ys => Fl2 x y ∧ (tkD x = tkD y → Cm xs ys)
  | _, _ => True
theorem lt_tk {n : Nat} : ∀ {xs ys : List D}, Cm xs ys → ltLs (deq n) (dlt n) xs ys = some (decide (kcmp (xs.map tkD) (ys.map tkD) = -1))
  | [], [], _ => rfl
  | [], y :: ys, _ => by simp [ltLs, kcmp]
  | x :: xs, [], _ => by simp [ltLs, kcmp]
  | x :: xs, y :: ys, h => by
    have h1 := fl3_deq (.inl h.1) n
    rw [ltLs, h1, List.map_cons, List.map_cons, kcmp]
    by_cases e : tkD x = tkD y
    · rw [if_pos e, decide_eq_true e]
      exact lt_tk (h.2 e)
    · rw [if_neg e, decide_eq_false e]
      show dlt n x y = _
      rw [fl2_dlt h.1 n]
      congr 1
      cases (tkD x).lt (tkD y) <;> simp
def Vl.hL (v : Vl) : List Fm.D := match v with
  | .int i => [.int 1, .int 0, .int (if i < 0 then -i else i), .bl (decide (i < 0))]
  | .str s => [.int (1 + s.length), .int 1, .str s]
  | v => [.int v.size, .int v.kind]
theorem hL_tk (v : Vl) : v.hL.map tkD = v.hd := by
  cases v with
  | int i =>
    have : (if i < 0 then -i else i) = (i.natAbs : Int) := by split <;> omega
    simp [Vl.hL, tkD, Vl.hd, Vl.hx, Vl.size, Vl.kind, this]
  | str s => simp [Vl.hL, tkD, Vl.hd, Vl.hx, Vl.size, Vl.kind]
  | lst => simp [Vl.hL, tkD, Vl.hd, Vl.hx]
  | rc => simp [Vl.hL, tkD, Vl.hd, Vl.hx]
  | tag => simp [Vl.hL, tkD, Vl.hd, Vl.hx]
theorem fl2_i {i j : Int} : Fl2 (.int i) (.int j) := .inl ⟨i, j, rfl, rfl⟩
theorem fl2_s {i j : Str} : Fl2 (.str i) (.str j) := .inr (.inl ⟨i, j, rfl, rfl⟩)
theorem fl2_b {i j : Bool} : Fl2 (.bl i) (.bl j) := .inr (.inr ⟨i, j, rfl, rfl⟩)
theorem fl3_is {i : Int} {j : Str} : Fl3 (.int i) (.str j) := .inr (.inl ⟨i, j, rfl, rfl⟩)
theorem fl3_si {i : Int} {j : Str} : Fl3 (.str j) (.int i) := .inr (.inr ⟨j, i, rfl, rfl⟩)
theorem hL_fl (a b : Vl) : Zf a.hL b.hL := by
  have f1 : ∀ {i j : Int}, Fl3 (.int i) (.int j) := .inl fl2_i
  have f2 : ∀ {i j : Str}, Fl3 (.str i) (.str j) := .inl fl2_s
  have f3 : ∀ {i j : Bool}, Fl3 (.bl i) (.bl j) := .inl fl2_b
  cases a <;> cases b <;> simp only [Vl.hL, Zf, f1, f2, f3, fl3_is, fl3_si, and_self]
theorem hL_cm (a b : Vl) : Cm a.hL b.hL := by
  cases a <;> cases b <;> simp only [Vl.hL, Cm, fl2_i, fl2_s, fl2_b, true_and, tkD, Tk.n.injEq, Vl.kind, implies_true, and_true, and_self] <;> intro h <;> intro h2 <;> first | omega | skip
theorem head_eq {v : Vl} (h : v.Wf) (hs : v.size ≤ 1000000) (μ : Mu) : F__head [.d v.D] μ = some (.ok (.d (.tup v.hL)) μ) := by
  have hk := kind_eq v μ
  have h1 := size_of_eq h hs μ
  have h2 := own_size_eq h μ
  cases v with
  | int i =>
    refine fnB_ret (seq_asg (y := .d (.int 0)) (μ' := μ) (by simpa [Vl.kind] using hk) (seq_hit (by simp) (ret_eq ?_)))
    simp [eTup, dTs, SL, eB, ofG, gAbs, Vl.D, Vl.hL]
  | str s =>
    refine fnB_ret (seq_asg (y := .d (.int 1)) (μ' := μ) (by simpa [Vl.kind] using hk) (seq_pass (by simp) (seq_hit (by simp) (ret_eq ?_))))
    simp only [Vl.D] at h2
    simp [eTup, dTs, SL, Vl.hL, h2, Vl.own1, Vl.D]
  | lst xs =>
    refine fnB_ret (seq_asg (y := .d (.int 2)) (μ' := μ) (by simpa [Vl.kind] using hk) (seq_pass (by simp) (seq_pass (by simp) (ret_eq ?_))))
    simp [eTup, dTs, SL, Vl.hL, h1, Vl.kind]
  | rc xs =>
    refine fnB_ret (seq_asg (y := .d (.int 3)) (μ' := μ) (by simpa [Vl.kind] using hk) (seq_pass (by simp) (seq_pass (by simp) (ret_eq ?_))))
    simp [eTup, dTs, SL, Vl.hL, h1, Vl.kind]
  | tag n w =>
    refine fnB_ret (seq_asg (y := .d (.int 4)) (μ' := μ) (by simpa [Vl.kind] using hk) (seq_pass (by simp) (seq_pass (by simp) (ret_eq ?_))))
    simp [eTup, dTs, SL, Vl.hL, h1, Vl.kind]
theorem gEq_tup {xs ys : List D} {n : Bool} {μ : Mu} {b : Bool} (h : deq 60 (.tup xs) (.tup ys) = some b) : gEq n μ (.d (.tup xs)) (.d (.tup ys)) = some (.d (.bl (if n then !b else b))) := by
  simp only [gEq, g2or, gEqF, flat, gEqT, ki]
  rw [if_pos ⟨trivial, by omega⟩, h]
  rfl
theorem compare_of {x y : D} {μ : Mu} {b c : Bool} (he : gEq false μ (.d x) (.d y) = some (.d (.bl b))) (hl : b = false → dlt 60 x y = some c) : F__compare [.d x, .d y] μ = some (.ok (.d (.int (if b = true then 0 else if c = true then -1 else 1))) μ) := by
  have e1 : eOp (gEq false) (eVar 0) (eVar 1) [some (.d x), some (.d y)] μ = some (.ok (.d (.bl b)) μ) := op_eq' (x := .d x) (y := .d y) (μ1 := μ) rfl rfl he
  cases b with
  | true => exact fnB_ret (seq_hit (be_eq e1) rfl)
  | false =>
    have hl := hl rfl
    have e2 : eOp gLtT (eVar 0) (eVar 1) [some (.d x), some (.d y)] μ = some (.ok (.d (.bl c)) μ) := op_eq' (x := .d x) (y := .d y) (μ1 := μ) rfl rfl (by simp only [gLtT, rd, hl, Option.map_some])
    refine fnB_ret (seq_pass (be_eq e1) (ret_eq ?_))
    refine (mb_ok (be_eq e2)).trans ?_
    cases c <;> simp [eNeg, negT]
theorem kcmp_val' {a b : List Tk} : kcmp a b = if a = b then 0 else if kcmp a b = -1 then -1 else 1 := by
  by_cases e : a = b
  · rw [if_pos e, kcmp_eq0.mpr e]
  · rw [if_neg e]
    rcases kcmp_val a b with h | h | h
    · rw [h]; rfl
    · exact absurd (kcmp_eq0.mp h) e
    · rw [h]; rfl
theorem head_cmp (a b : Vl) (μ : Mu) : F__compare [.d (.tup a.hL), .d (.tup b.hL)] μ = some (.ok (.d (.int (kcmp a.hd b.hd))) μ) := by
  have h1 : deq 60 (.tup a.hL) (.tup b.hL) = some (decide (a.hd = b.hd)) := by
    show (zipO (deq 59) _ _).map _ = _
    rw [zip_tk (hL_fl a b), hL_tk, hL_tk]
  have h2 : dlt 60 (.tup a.hL) (.tup b.hL) = some (decide (kcmp a.hd b.hd = -1)) := by
    show ltLs (deq 59) (dlt 59) _ _ = _
    rw [lt_tk (hL_cm a b), hL_tk, hL_tk]
  rw [compare_of (gEq_tup h1) fun _ => h2]
  conv => rhs; rw [kcmp_val' (a := a.hd) (b := b.hd)]
  simp
def scmp (s t : Str) : Int := if s = t then 0 else if sLt s t = true then -1 else 1
theorem str_cmp (s t : Str) (μ : Mu) : F__compare [.d (.str s), .d (.str t)] μ = some (.ok (.d (.int (scmp s t))) μ) := by
  rw [compare_of (b := decide (s = t)) (c := sLt s t) (by simp) fun _ => by rw [fl2_dlt fl2_s]; rfl]
  simp [scmp]
/-! ### compare_values -/
def vcmp (n : Nat) (a b : Vl) : Int := kcmp (a.key n) (b.key n)
theorem pair_at0 {p : Str × Vl} {μ : Mu} : gIx μ (.d (pairD p)) (.d (.int 0)) = some (.d (.str p.1)) := by
  simp [pairD, gIx, gIx2, lstOf, tupOf, ixT]
theorem pair_at1 {p : Str × Vl} {μ : Mu} : gIx μ (.d (pairD p)) (.d (.int 1)) = some (.d p.2.D) := by
  simp [pairD, gIx, gIx2, lstOf, tupOf, ixT]
noncomputable def cvBody (f : FN) : SF := (sSeq (sAsg (eDef F__compare (aCons (eOp gIx (eVar 3) (eC (.int 0))) (aCons (eOp gIx (eVar 4) (eC (.int 0))) aNil))) (gN 2))
    (sSeq (sIf (bE (eOp (gEqF false) (eVar 2) (eC (.int 0)))) (sAsg (eDef f (aCons (eOp gIx (eVar 3) (eC (.int 1))) (aCons (eOp gIx (eVar 4) (eC (.int 1))) aNil))) (gN 2)) sNx)
    (sIf (bE (eOp (gEqF true) (eVar 2) (eC (.int 0)))) (sRet (eVar 2)) sNx)))
theorem cv_loop {f : FN} {g : Vl → Vl → Int} {μ : Mu} {x0 x1 : Option T} : ∀ {ps qs : List (Str × Vl)} {x2 x3 x4 : Option T}, (∀ p ∈ ps, ∀ q ∈ qs, f [.d p.2.D, .d q.2.D] μ = some (.ok (.d (.int (g p.2 q.2))) μ)) →
    ∃ ρ, forL (gTp [3, 4]) (cvBody f) ((ps.zip qs).map fun z => T.d (.tup [pairD z.1, pairD z.2])) [x0, x1, x2, x3, x4] μ = some (.ok (if lcmp g ps qs = 0 then .nx else .ret (.d (.int (lcmp g ps qs))), ρ) μ)
  | [], _, x2, x3, x4, _ => ⟨_, rfl⟩
  | _ :: _, [], x2, x3, x4, _ => ⟨_, rfl⟩
  | p :: ps, q :: qs, x2, x3, x4, h => by
    have h1 := h p List.mem_cons_self q List.mem_cons_self
    rw [List.zip_cons_cons, List.map_cons, lcmp]
    have hg : gTp [3, 4] (.d (.tup [pairD p, pairD q])) [x0, x1, x2, x3, x4] μ = some (.ok [x0, x1, x2, some (.d (pairD p)), some (.d (pairD q))] μ) := by simp [gTp, gNs, tupOf, lstOf]
    have a1 := pair_at0 (p := p) (μ := μ)
    have a2 := pair_at0 (p := q) (μ := μ)
    have b1 := pair_at1 (p := p) (μ := μ)
    have b2 := pair_at1 (p := q) (μ := μ)
    have c1 := str_cmp p.1 q.1 μ
    have s1 : eDef F__compare (aCons (eOp gIx (eVar 3) (eC (.int 0))) (aCons (eOp gIx (eVar 4) (eC (.int 0))) aNil)) [x0, x1, x2, some (.d (pairD p)), some (.d (pairD q))] μ = some (.ok (.d (.int (scmp p.1 q.1))) μ) := by simp [a1, a2, c1]
    by_cases e : p.1 = q.1
    · rw [if_pos e]
      have sc : scmp p.1 q.1 = 0 := by rw [scmp, if_pos e]
      rw [sc] at s1
      have s2 : sIf (bE (eOp (gEqF false) (eVar 2) (eC (.int 0)))) (sAsg (eDef f (aCons (eOp gIx (eVar 3) (eC (.int 1))) (aCons (eOp gIx (eVar 4) (eC (.int 1))) aNil))) (gN 2)) sNx [x0, x1, some (.d (.int 0)), some (.d (pairD p)), some (.d (pairD q))] μ = some (.ok (.nx, [x0, x1, some (.d (.int (g p.2 q.2))), some (.d (pairD p)), some (.d (pairD q))]) μ) :=
        if_t (μ' := μ) (by simp) (asg_eq (by simp [b1, b2, h1]))
      by_cases z : g p.2 q.2 = 0
      · rw [if_pos z]
        obtain ⟨ρ, ih⟩ := cv_loop (f := f) (g := g) (μ := μ) (x0 := x0) (x1 := x1) (ps := ps) (qs := qs) (x2 := some (.d (.int (g p.2 q.2)))) (x3 := some (.d (pairD p))) (x4 := some (.d (pairD q))) fun a ha b hb => h a (List.mem_cons_of_mem _ ha) b (List.mem_cons_of_mem _ hb)
        exact ⟨ρ, for_step (b := cvBody f) hg (seq_asg s1 (seq_nx s2 (if_f (μ' := μ) (by simp [z]) rfl))) ih⟩
      · rw [if_neg z, if_neg z]
        refine ⟨_, for_ret (b := cvBody f) hg (seq_asg s1 (seq_nx s2 (if_t (μ' := μ) (by simp [z]) (ret_eq (x := .int (g p.2 q.2)) rfl))))⟩
    · rw [if_neg e]
      have sc : scmp p.1 q.1 = if sLt p.1 q.1 = true then -1 else 1 := by rw [scmp, if_neg e]
      have z : scmp p.1 q.1 ≠ 0 := by rw [sc]; split <;> omega
      rw [← sc, if_neg z]
      refine ⟨_, for_ret (b := cvBody f) hg (seq_asg s1 (seq_nx (if_f (μ' := μ) (by simp [z]) rfl) (if_t (μ' := μ) (by simp [z]) (ret_eq (x := .int (scmp p.1 q.1)) rfl))))⟩
theorem zip_eq {e1 e2 : EF} {ρ : Rho} {μ : Mu} {ps qs : List (Str × Vl)} (h1 : e1 ρ μ = some (.ok (.d (.lst (ps.map pairD))) μ)) (h2 : e2 ρ μ = some (.ok (.d (.lst (qs.map pairD))) μ)) :
    iZp (aCons e1 (aCons e2 aNil)) ρ μ = some (.ok ((ps.zip qs).map fun z => T.d (.tup [pairD z.1, pairD z.2])) μ) := by
  have e : ((ps.map pairD).zip (qs.map pairD)).map (fun p => T.d (.tup [p.1, p.2])) = (ps.zip qs).map fun z => T.d (.tup [pairD z.1, pairD z.2]) := by
    rw [List.zip_map, List.map_map]
    rfl
  simp [iZp, h1, h2, zipD, lstD, dTs_d]
  rw [← List.map_map, ← List.map_map, dTs_d, dTs_d]
  simp [e]
theorem cv_of {n : Nat} {f : FN} {a b : Vl} {μ : Mu} (wa : a.Wf) (wb : b.Wf) (za : a.size ≤ 1000000) (zb : b.size ≤ 1000000) {g : Vl → Vl → Int} (hf : ∀ p ∈ a.named, ∀ q ∈ b.named, f [.d p.2.D, .d q.2.D] μ = some (.ok (.d (.int (g p.2 q.2))) μ)) :
    fnB 5 (b_compare_values F__compare F__head F__named_parts f) [.d a.D, .d b.D] μ = some (.ok (.d (.int (if a.hd = b.hd then lcmp g a.named b.named else kcmp a.hd b.hd))) μ) := by
  have h1 := head_eq wa za μ
  have h2 := head_eq wb zb μ
  have h3 := head_cmp a b μ
  have h4 := named_eq wa μ
  have h5 := named_eq wb μ
  have s1 : eDef F__compare (aCons (eDef F__head (aCons (eVar 0) aNil)) (aCons (eDef F__head (aCons (eVar 1) aNil)) aNil)) [some (.d a.D), some (.d b.D), none, none, none] μ = some (.ok (.d (.int (kcmp a.hd b.hd))) μ) := by simp [h1, h2, h3]
  by_cases e : a.hd = b.hd
  · rw [if_pos e]
    rw [kcmp_eq0.mpr e] at s1
    obtain ⟨ρ, h⟩ := cv_loop (f := f) (g := g) (μ := μ) (x0 := some (.d a.D)) (x1 := some (.d b.D)) (x2 := some (.d (.int 0))) (x3 := none) (x4 := none) (ps := a.named) (qs := b.named) hf
    have hz := for_eq (gf := gTp [3, 4]) (f := cvBody f) (zip_eq (e1 := eDef F__named_parts (aCons (eVar 0) aNil)) (e2 := eDef F__named_parts (aCons (eVar 1) aNil)) (ρ := [some (.d a.D), some (.d b.D), some (.d (.int 0)), none, none]) (μ := μ) (ps := a.named) (qs := b.named) (by simp [h4]) (by simp [h5])) h
    by_cases z : lcmp g a.named b.named = 0
    · rw [if_pos z] at hz
      rw [z]
      exact fnB_ret (seq_asg s1 (seq_pass (by simp) (seq_nx hz (ret_eq rfl))))
    · rw [if_neg z] at hz
      exact fnB_ret (seq_asg s1 (seq_pass (by simp) (seq_ret hz)))
  · rw [if_neg e]
    have z : kcmp a.hd b.hd ≠ 0 := fun z => e (kcmp_eq0.mp z)
    exact fnB_ret (seq_asg s1 (seq_hit (by simp [z]) (ret_eq rfl)))
theorem lcmp_congr {f g : Vl → Vl → Int} : ∀ {ps qs : List (Str × Vl)}, (∀ p ∈ ps, ∀ q ∈ qs, f p.2 q.2 = g p.2 q.2) → lcmp f ps qs = lcmp g ps qs
  | [], _, _ => rfl
  | _ :: _, [], _ => rfl
  | p :: ps, q :: qs, h => by
    rw [lcmp, lcmp, h p List.mem_cons_self q List.mem_cons_self, lcmp_congr fun a ha b hb => h a (List.mem_cons_of_mem _ ha) b (List.mem_cons_of_mem _ hb)]
theorem vcmp_0 {a b : Vl} (da : a.dep = 0) : vcmp 0 a b = if a.hd = b.hd then lcmp (vcmp 0) a.named b.named else kcmp a.hd b.hd := by
  rw [named_nil da]
  unfold vcmp
  show kcmp a.hd b.hd = _
  split
  · rename_i e; rw [e, kcmp_self]; rfl
  · rfl
theorem mem_le_sum : ∀ {l : List Nat} {x : Nat}, x ∈ l → x ≤ l.sum
  | y :: l, x, h => by
    rw [List.sum_cons]
    rcases List.mem_cons.mp h with e | e
    · omega
    · have := mem_le_sum e
      omega
theorem part_size {v : Vl} (h : v.Wf) (hs : v.size ≤ 1000000) : ∀ p ∈ v.named, p.2.size ≤ 1000000 := fun p hp => by
  have h1 := named_sum h
  have : p.2.size ≤ nsum v.named := by
    unfold nsum
    exact mem_le_sum (List.mem_map.mpr ⟨p, hp, rfl⟩)
  omega
theorem cv_eq (μ : Mu) : ∀ (n : Nat) {a b : Vl}, a.Wf → b.Wf → a.size ≤ 1000000 → b.size ≤ 1000000 → a.dep ≤ n → b.dep ≤ n → F_compare_values (n + 1) [.d a.D, .d b.D] μ = some (.ok (.d (.int (vcmp n a b))) μ)
  | 0, a, b, wa, wb, za, zb, da, db => by
    rw [vcmp_0 (by omega)]
    exact cv_of (n := 0) wa wb za zb fun p hp => by rw [named_nil (by omega)] at hp; cases hp
  | n + 1, a, b, wa, wb, za, zb, da, db => by
    unfold vcmp
    rw [key_cmp wa wb da db]
    exact cv_of (n := n) wa wb za zb fun p hp q hq => cv_eq μ n (named_wf wa p hp) (named_wf wb q hq) (part_size wa za p hp) (part_size wb zb q hq) (named_dep wa da p hp) (named_dep wb db q hq)
end Fm
set_option Elab.async false
set_option linter.all false
set_option maxRecDepth 100000
namespace Fm
open PySem L2 PySem.Spec PyProof.Rows
/-! ### _law_before -/
def icmp (i j : Int) : Int := if i < j then -1 else if j < i then 1 else 0
theorem sign_i (i j : Int) (μ : Mu) : F__law_sign [.d (.int i), .d (.int j)] μ = some (.ok (.d (.int (icmp i j))) μ) := by
  unfold icmp
  by_cases h : i < j
  · rw [if_pos h]
    exact fnB_ret (seq_hit (by simp [h]) (ret_eq (by simp [eNeg, negT])))
  · rw [if_neg h]
    by_cases h2 : j < i
    · rw [if_pos h2]
      exact fnB_ret (seq_pass (by simp [h]) (seq_hit (by simp [h2]) (ret_eq rfl)))
    · rw [if_neg h2]
      exact fnB_ret (seq_pass (by simp [h]) (seq_pass (by simp [h2]) (ret_eq rfl)))
theorem sign_s (i j : Str) (μ : Mu) : F__law_sign [.d (.str i), .d (.str j)] μ = some (.ok (.d (.int (scmp i j))) μ) := by
  unfold scmp
  by_cases h : sLt i j = true
  · have hn : i ≠ j := fun z => by rw [z, sLt_irr] at h; cases h
    rw [if_neg hn, if_pos h]
    exact fnB_ret (seq_hit (by simp [ltS_eq, h]) (ret_eq (by simp [eNeg, negT])))
  · have h : sLt i j = false := by simpa using h
    by_cases h2 : i = j
    · rw [if_pos h2]
      subst h2
      exact fnB_ret (seq_pass (by simp [ltS_eq, h]) (seq_pass (by simp [ltS_eq, h]) (ret_eq rfl)))
    · have h3 : sLt j i = true := by
        rcases sLt_tri i j with q | q | q
        · rw [q] at h; cases h
        · exact absurd q h2
        · exact q
      rw [if_neg h2, if_neg (by rw [h]; exact Bool.false_ne_true)]
      exact fnB_ret (seq_pass (by simp [ltS_eq, h]) (seq_hit (by simp [ltS_eq, h3]) (ret_eq rfl)))
theorem icmp_tk {i j : Int} {a b : List Tk} : kcmp (.n i :: a) (.n j :: b) = if icmp i j = 0 then kcmp a b else icmp i j := by
  unfold icmp
  rw [kcmp]
  by_cases e : i = j
  · subst e
    simp
  · rcases Int.lt_or_gt_of_ne e with h | h
    · simp [e, h, Tk.lt]
    · have : ¬ i < j := by omega
      simp [e, h, Tk.lt, this]
theorem scmp_tk {i j : Str} {a b : List Tk} : kcmp (.s i :: a) (.s j :: b) = if i = j then kcmp a b else scmp i j := by
  unfold scmp
  rw [kcmp]
  by_cases e : i = j
  · simp [e]
  · have : ¬ (Tk.s i = Tk.s j) := fun z => e (by injection z)
    rw [if_neg this, if_neg e, if_neg e]
    rfl
/-- the law's loop -/
noncomputable def lbBody (f : FN) : SF := (sSeq (sIf (bE (eOp (gEqF false) (eDef F_kind_of (aCons (eVar 0) aNil)) (eC (.int 3)))) (sAsg (eFz (cLst (aCons (eOp gIx (eFz (cB gSorted (aCons (eVar 0) aNil))) (eVar 6)) (aCons (eOp gIx (eFz (cB gSorted (aCons (eVar 1) aNil))) (eVar 6)) aNil)))) (gN 3)) sNx)
    (sSeq (sIf (bE (eOp (gEqF true) (eOp gIx (eVar 3) (eC (.int 0))) (eOp gIx (eVar 3) (eC (.int 1))))) (sRet (eDef F__law_sign (aCons (eOp gIx (eVar 3) (eC (.int 0))) (aCons (eOp gIx (eVar 3) (eC (.int 1))) aNil)))) sNx)
    (sSeq (sAsg (eDef f (aCons (eOp gIx (eVar 4) (eVar 6)) (aCons (eOp gIx (eVar 5) (eVar 6)) aNil))) (gN 2))
    (sIf (bE (eOp (gEqF true) (eVar 2) (eC (.int 0)))) (sRet (eVar 2)) sNx))))
theorem lst_at {α : Type} {μ : Mu} {f : α → D} {l : List α} {k : Nat} {a : α} (h : l[k]? = some a) : gIx μ (.d (.lst (l.map f))) (.d (.int k)) = some (.d (f a)) := by
  have h' : ((l.map f).map T.d)[k]? = some (.d (f a)) := by simp [h]
  obtain ⟨hl, e⟩ := List.getElem?_eq_some_iff.mp h'
  have := atI_at hl
  rw [e] at this
  simp only [gIx, gIx2, lstOf, ixT, this, Option.map_some]
  rfl
/-- the names beside each other -/
def nmL (s t : Str) : D := .lst [.str s, .str t]
theorem nm0 {s t : Str} {μ : Mu} : gIx μ (.d (nmL s t)) (.d (.int 0)) = some (.d (.str s)) := by simp [nmL, gIx, gIx2, lstOf, ixT]
theorem nm1 {s t : Str} {μ : Mu} : gIx μ (.d (nmL s t)) (.d (.int 1)) = some (.d (.str t)) := by simp [nmL, gIx, gIx2, lstOf, ixT]
theorem named_at {v : Vl} {k : Nat} {p : Str × Vl} (h : v.named[k]? = some p) {μ : Mu} : gIx μ (.d (.lst (v.parts.map Vl.D))) (.d (.int k)) = some (.d p.2.D) := by
  refine lst_at (f := Vl.D) ?_
  rw [← named_parts]
  simp [h]
theorem lb_names {a b : Vl} (wa : a.Wf) (wb : b.Wf) (hk : a.kind = b.kind) (h2 : 2 ≤ a.kind) (h4 : a.kind ≠ 4) {k : Nat} {p q : Str × Vl} (hp : a.named[k]? = some p) (hq : b.named[k]? = some q) {x2 x4 x5 : Option T} {s t : Str} (hst : a.kind = 2 → s = "" ∧ t = "") {μ : Mu} :
    sIf (bE (eOp (gEqF false) (eDef F_kind_of (aCons (eVar 0) aNil)) (eC (.int 3)))) (sAsg (eFz (cLst (aCons (eOp gIx (eFz (cB gSorted (aCons (eVar 0) aNil))) (eVar 6)) (aCons (eOp gIx (eFz (cB gSorted (aCons (eVar 1) aNil))) (eVar 6)) aNil)))) (gN 3)) sNx
      [some (.d a.D), some (.d b.D), x2, some (.d (nmL s t)), x4, x5, some (.d (.int k))] μ = some (.ok (.nx, [some (.d a.D), some (.d b.D), x2, some (.d (nmL p.1 q.1)), x4, x5, some (.d (.int k))]) μ) := by
  have k1 := kind_eq a μ
  cases a with
  | int => simp [Vl.kind] at h2
  | str => simp [Vl.kind] at h2
  | tag => simp [Vl.kind] at h4
  | lst xs =>
    cases b <;> first | (simp [Vl.kind] at hk; done) | skip
    obtain ⟨rfl, rfl⟩ := hst rfl
    have e1 : p.1 = "" := by
      simp only [Vl.named, List.getElem?_map] at hp
      obtain ⟨v, _, e⟩ := Option.map_eq_some_iff.mp hp
      rw [← e]
    have e2 : q.1 = "" := by
      simp only [Vl.named, List.getElem?_map] at hq
      obtain ⟨v, _, e⟩ := Option.map_eq_some_iff.mp hq
      rw [← e]
    rw [e1, e2]
    exact if_f (μ' := μ) (by simp [k1, Vl.kind]) rfl
  | rc ks =>
    cases b <;> first | (simp [Vl.kind] at hk; done) | skip
    rename_i ls
    refine if_t (μ' := μ) (by simp [k1, Vl.kind]) (asg_eq ?_)
    have s1 : eFz (cB gSorted (aCons (eVar 0) aNil)) [some (.d (Vl.rc ks).D), some (.d (Vl.rc ls).D), x2, some (.d (nmL s t)), x4, x5, some (.d (.int k))] μ = some (.ok (.d (.lst ((sortS (ks.map (·.1))).map D.str))) μ) := sorted_eq wa.1 (by simp [Vl.D])
    have s2 : eFz (cB gSorted (aCons (eVar 1) aNil)) [some (.d (Vl.rc ks).D), some (.d (Vl.rc ls).D), x2, some (.d (nmL s t)), x4, x5, some (.d (.int k))] μ = some (.ok (.d (.lst ((sortS (ls.map (·.1))).map D.str))) μ) := sorted_eq wb.1 (by simp [Vl.D])
    have g1 : gIx μ (.d (.lst ((sortS (ks.map (·.1))).map D.str))) (.d (.int k)) = some (.d (.str p.1)) := lst_at (f := D.str) (by rw [← fsort_names]; simp only [List.getElem?_map]; rw [show (fsort ks)[k]? = some p from hp]; rfl)
    have g2 : gIx μ (.d (.lst ((sortS (ls.map (·.1))).map D.str))) (.d (.int k)) = some (.d (.str q.1)) := lst_at (f := D.str) (by rw [← fsort_names]; simp only [List.getElem?_map]; rw [show (fsort ls)[k]? = some q from hq]; rfl)
    have o1 := op_eq' (g2 := gIx) (μ1 := μ) (μ2 := μ) s1 (show eVar 6 _ μ = some (.ok (.d (.int k)) μ) from rfl) g1
    have o2 := op_eq' (g2 := gIx) (μ1 := μ) (μ2 := μ) s2 (show eVar 6 _ μ = some (.ok (.d (.int k)) μ) from rfl) g2
    exact fl_eq (ds := [.str p.1, .str q.1]) (an_cons o1 (an_cons o2 an_nil)) (by show (2 : Nat) ≤ 16777216; decide)
theorem lb_loop {f : FN} {g : Vl → Vl → Int} {a b : Vl} (wa : a.Wf) (wb : b.Wf) (hk : a.kind = b.kind) (h2 : 2 ≤ a.kind) (h4 : a.kind ≠ 4) {μ : Mu} (hf : ∀ p ∈ a.named, ∀ q ∈ b.named, f [.d p.2.D, .d q.2.D] μ = some (.ok (.d (.int (g p.2 q.2))) μ)) :
    ∀ (m k : Nat) {x2 x6 : Option T} {s t : Str}, (a.kind = 2 → s = "" ∧ t = "") → k + m = min a.named.length b.named.length →
    ∃ ρ, forL (gN 6) (lbBody f) ((List.range' k m).map fun (i : Nat) => T.d (.int i)) [some (.d a.D), some (.d b.D), x2, some (.d (nmL s t)), some (.d (.lst (a.parts.map Vl.D))), some (.d (.lst (b.parts.map Vl.D))), x6] μ =
      some (.ok (if lcmp g (a.named.drop k) (b.named.drop k) = 0 then (.nx, ρ) else (.ret (.d (.int (lcmp g (a.named.drop k) (b.named.drop k)))), ρ)) μ) ∧ ∃ y2 y3 y6, ρ = [some (.d a.D), some (.d b.D), y2, y3, some (.d (.lst (a.parts.map Vl.D))), some (.d (.lst (b.parts.map Vl.D))), y6]
  | 0, k, x2, x6, s, t, hst, hkm => by
    have : lcmp g (a.named.drop k) (b.named.drop k) = 0 := by
      rcases Nat.le_total a.named.length b.named.length with q | q
      · rw [List.drop_of_length_le (l := a.named) (by omega)]; rfl
      · rw [List.drop_of_length_le (l := b.named) (by omega)]
        cases a.named.drop k <;> rfl
    rw [this]
    exact ⟨_, rfl, _, _, _, rfl⟩
  | m + 1, k, x2, x6, s, t, hst, hkm => by
    have la : k < a.named.length := by omega
    have lb : k < b.named.length := by omega
    have ea := List.drop_eq_getElem_cons la
    have eb := List.drop_eq_getElem_cons lb
    have pa : a.named[k]? = some a.named[k] := List.getElem?_eq_getElem la
    have pb : b.named[k]? = some b.named[k] := List.getElem?_eq_getElem lb
    have ma : a.named[k] ∈ a.named := List.getElem_mem la
    have mb : b.named[k] ∈ b.named := List.getElem_mem lb
    generalize a.named[k] = p at ea pa ma
    generalize b.named[k] = q at eb pb mb
    have hfn := hf p ma q mb
    have n1 := lb_names wa wb hk h2 h4 pa pb (x2 := x2) (x4 := some (.d (.lst (a.parts.map Vl.D)))) (x5 := some (.d (.lst (b.parts.map Vl.D)))) hst (μ := μ)
    have hst' : a.kind = 2 → p.1 = "" ∧ q.1 = "" := by
      intro e
      cases a <;> first | (simp [Vl.kind] at e; done) | skip
      cases b <;> first | (simp [Vl.kind] at hk; done) | skip
      simp only [Vl.named, List.mem_map] at ma mb
      obtain ⟨_, _, e1⟩ := ma
      obtain ⟨_, _, e2⟩ := mb
      rw [← e1, ← e2]
      exact ⟨rfl, rfl⟩
    rw [ea, eb, lcmp, List.range'_succ, List.map_cons]
    have hg : gN 6 (T.d (.int k)) [some (.d a.D), some (.d b.D), x2, some (.d (nmL s t)), some (.d (.lst (a.parts.map Vl.D))), some (.d (.lst (b.parts.map Vl.D))), x6] μ = some (.ok [some (.d a.D), some (.d b.D), x2, some (.d (nmL s t)), some (.d (.lst (a.parts.map Vl.D))), some (.d (.lst (b.parts.map Vl.D))), some (.d (.int k))] μ) := rfl
    have i0 := nm0 (s := p.1) (t := q.1) (μ := μ)
    have i1 := nm1 (s := p.1) (t := q.1) (μ := μ)
    have g1 := named_at pa (μ := μ)
    have g2 := named_at pb (μ := μ)
    have sg := sign_s p.1 q.1 μ
    by_cases e : p.1 = q.1
    · rw [if_pos e]
      have s3 : sAsg (eDef f (aCons (eOp gIx (eVar 4) (eVar 6)) (aCons (eOp gIx (eVar 5) (eVar 6)) aNil))) (gN 2) [some (.d a.D), some (.d b.D), x2, some (.d (nmL p.1 q.1)), some (.d (.lst (a.parts.map Vl.D))), some (.d (.lst (b.parts.map Vl.D))), some (.d (.int k))] μ = some (.ok (.nx, [some (.d a.D), some (.d b.D), some (.d (.int (g p.2 q.2))), some (.d (nmL p.1 q.1)), some (.d (.lst (a.parts.map Vl.D))), some (.d (.lst (b.parts.map Vl.D))), some (.d (.int k))]) μ) := asg_eq (by simp [g1, g2, hfn])
      by_cases z : g p.2 q.2 = 0
      · rw [if_pos z]
        obtain ⟨ρ, ih, hρ⟩ := lb_loop wa wb hk h2 h4 hf m (k + 1) (x2 := some (.d (.int (g p.2 q.2)))) (x6 := some (.d (.int k))) hst' (by omega)
        refine ⟨ρ, for_step (b := lbBody f) hg (seq_nx n1 (seq_pass (by simpa [i0, i1] using e) (seq_nx s3 (if_f (μ' := μ) (by simp [z]) rfl)))) ih, hρ⟩
      · simp only [if_neg z]
        exact ⟨_, for_ret (b := lbBody f) hg (seq_nx n1 (seq_pass (by simpa [i0, i1] using e) (seq_nx s3 (if_t (μ' := μ) (by simp [z]) (ret_eq (x := .int (g p.2 q.2)) rfl))))), _, _, _, rfl⟩
    · have sc : scmp p.1 q.1 = if sLt p.1 q.1 = true then -1 else 1 := by rw [scmp, if_neg e]
      have z : scmp p.1 q.1 ≠ 0 := by rw [sc]; split <;> omega
      rw [if_neg e, ← sc]
      simp only [if_neg z]
      exact ⟨_, for_ret (b := lbBody f) hg (seq_nx n1 (seq_hit (by simpa [i0, i1] using e) (ret_eq (x := .int (scmp p.1 q.1)) (by simp [i0, i1, sg])))), _, _, _, rfl⟩
theorem fnB_ex {N : Nat} {f : SF} {xs : List T} {x : D} {μ : Mu} (h : ∃ ρ, f (xs.map some ++ List.replicate (N - xs.length) none) μ = some (.ok (.ret (.d x), ρ) μ)) : fnB N f xs μ = some (.ok (.d x) μ) := by
  obtain ⟨ρ, h⟩ := h
  exact fnB_ret h
theorem abs_cmp (i j : Int) : icmp (2 * i.natAbs + if i < 0 then 1 else 0) (2 * j.natAbs + if j < 0 then 1 else 0) = kcmp [.n i.natAbs, .n (if i < 0 then 1 else 0)] [.n j.natAbs, .n (if j < 0 then 1 else 0)] := by
  rw [icmp_tk, icmp_tk]
  simp only [kcmp_self]
  generalize hi : (if i < 0 then (1 : Int) else 0) = ni
  generalize hj : (if j < 0 then (1 : Int) else 0) = nj
  have h1 : ni = 0 ∨ ni = 1 := by rw [← hi]; split <;> simp
  have h2 : nj = 0 ∨ nj = 1 := by rw [← hj]; split <;> simp
  unfold icmp
  split <;> split <;> (try split) <;> (try split) <;> (try split) <;> (try split) <;> omega
theorem abs_eq (e : EF) {ρ : Rho} {μ : Mu} {i : Int} (h : e ρ μ = some (.ok (.d (.int i)) μ)) : eOp gAdd (eOp (gIc cMul fun i j => .int (i * j)) (eC (.int 2)) (eB gAbs (aCons e aNil))) (eB gInt (aCons (eOp gLt e (eC (.int 0))) aNil)) ρ μ = some (.ok (.d (.int (2 * i.natAbs + if i < 0 then 1 else 0))) μ) := by
  have c0 : ∀ i : Int, cMul 2 i = true := fun i => by simp [cMul]
  have : (if i < 0 then -i else i) = (i.natAbs : Int) := by split <;> omega
  have h1 : eB gAbs (aCons e aNil) ρ μ = some (.ok (.d (.int i.natAbs)) μ) := bi_eq (an_cons h an_nil) (by simp [gAbs, this])
  have h2 : eOp gLt e (eC (.int 0)) ρ μ = some (.ok (.d (.bl (decide (i < 0)))) μ) := op_eq' (y := .d (.int 0)) (μ2 := μ) h rfl (by simp)
  have h3 : eB gInt (aCons (eOp gLt e (eC (.int 0))) aNil) ρ μ = some (.ok (.d (.int (if i < 0 then 1 else 0))) μ) := bi_eq (an_cons h2 an_nil) (by by_cases q : i < 0 <;> simp [gInt, q])
  have h4 : eOp (gIc cMul fun i j => .int (i * j)) (eC (.int 2)) (eB gAbs (aCons e aNil)) ρ μ = some (.ok (.d (.int (2 * i.natAbs))) μ) := op_eq' (x := .d (.int 2)) (μ1 := μ) rfl h1 (by simp [c0])
  exact op_eq' h4 h3 (by simp)
/-- the sign of a kind whose values have no parts, or of the tags, ahead of the loop -/
theorem lb_of {f : FN} {g : Vl → Vl → Int} {fs : FN} {a b : Vl} (wa : a.Wf) (wb : b.Wf) {μ : Mu} (sa : fs [.d a.D] μ = some (.ok (.d (.int a.size)) μ)) (sb : fs [.d b.D] μ = some (.ok (.d (.int b.size)) μ))
    (hf : ∀ p ∈ a.named, ∀ q ∈ b.named, f [.d p.2.D, .d q.2.D] μ = some (.ok (.d (.int (g p.2 q.2))) μ))
    (hz : a.hd = b.hd → lcmp g a.named b.named = 0 → a.named.length = b.named.length) :
    fnB 7 (b__law_before F__law_sign F__law_parts fs F_kind_of f) [.d a.D, .d b.D] μ = some (.ok (.d (.int (if a.hd = b.hd then lcmp g a.named b.named else kcmp a.hd b.hd))) μ) := by
  have ka := kind_eq a μ
  have kb := kind_eq b μ
  have s1 : eDef F__law_sign (aCons (eDef fs (aCons (eVar 0) aNil)) (aCons (eDef fs (aCons (eVar 1) aNil)) aNil)) [some (.d a.D), some (.d b.D), none, none, none, none, none] μ = some (.ok (.d (.int (icmp a.size b.size))) μ) := by simp [sa, sb, sign_i]
  have hh : kcmp a.hd b.hd = if icmp a.size b.size = 0 then (if icmp a.kind b.kind = 0 then kcmp a.hx b.hx else icmp a.kind b.kind) else icmp a.size b.size := by
    unfold Vl.hd
    rw [icmp_tk, icmp_tk]
  have hdn : a.size ≠ b.size ∨ a.kind ≠ b.kind → ¬ a.hd = b.hd := by
    rintro h z
    obtain ⟨h1, h2, _⟩ := hd_inj (a := a) (b := b) (l := []) (m := []) (by rw [z])
    rcases h with h | h
    · exact h h1
    · exact h h2
  refine fnB_ex ?_
  by_cases es : a.size = b.size
  · have z1 : icmp a.size b.size = 0 := by unfold icmp; rw [if_neg (by omega), if_neg (by omega)]
    rw [z1] at s1 hh
    rw [if_pos rfl] at hh
    have s2 : sIf (bE (eOp (gEqF false) (eVar 2) (eC (.int 0)))) (sAsg (eDef F__law_sign (aCons (eDef F_kind_of (aCons (eVar 0) aNil)) (aCons (eDef F_kind_of (aCons (eVar 1) aNil)) aNil))) (gN 2)) sNx [some (.d a.D), some (.d b.D), some (.d (.int 0)), none, none, none, none] μ = some (.ok (.nx, [some (.d a.D), some (.d b.D), some (.d (.int (icmp a.kind b.kind))), none, none, none, none]) μ) :=
      if_t (μ' := μ) (by simp) (asg_eq (by simp [ka, kb, sign_i]))
    by_cases ek : a.kind = b.kind
    · have z2 : icmp a.kind b.kind = 0 := by unfold icmp; rw [if_neg (by omega), if_neg (by omega)]
      rw [z2] at s2 hh
      rw [if_pos rfl] at hh
      have hx : (a.hd = b.hd) ↔ a.hx = b.hx := ⟨fun z => (hd_inj (a := a) (b := b) (l := []) (m := []) (by rw [z])).2.2.1, fun z => hd_eq es ek z⟩
      have s3 : bE (eOp (gEqF true) (eVar 2) (eC (.int 0))) [some (.d a.D), some (.d b.D), some (.d (.int 0)), none, none, none, none] μ = some (.ok false μ) := by simp
      have tst : ∀ n : Int, bE (eOp (gEqF false) (eDef F_kind_of (aCons (eVar 0) aNil)) (eC (.int n))) [some (.d a.D), some (.d b.D), some (.d (.int 0)), none, none, none, none] μ = some (.ok (decide (a.kind = n)) μ) := fun n => by simp [ka]
      have tst2 : ∀ n : Int, bE (eOp (gEqF false) (eDef F_kind_of (aCons (eVar 0) aNil)) (eC (.int n))) [some (.d a.D), some (.d b.D), some (.d (.int 0)), some (.d (nmL "" "")), none, none, none] μ = some (.ok (decide (a.kind = n)) μ) := fun n => by simp [ka]
      by_cases k0 : a.kind = 0
      · have t0 := tst 0
        rw [decide_eq_true k0] at t0
        cases a <;> first | (simp [Vl.kind] at k0; done) | skip
        cases b <;> first | (simp [Vl.kind] at ek; done) | skip
        rename_i i j
        have hr : (if (Vl.int i).hd = (Vl.int j).hd then lcmp g (Vl.int i).named (Vl.int j).named else kcmp (Vl.int i).hd (Vl.int j).hd) = icmp (2 * i.natAbs + if i < 0 then 1 else 0) (2 * j.natAbs + if j < 0 then 1 else 0) := by
          rw [abs_cmp]
          split
          · rename_i z
            have := (kcmp_eq0.mpr z).symm.trans hh
            exact this
          · exact hh
        rw [hr]
        have v0 := abs_eq (eVar 0) (ρ := [some (.d (Vl.int i).D), some (.d (Vl.int j).D), some (.d (.int 0)), none, none, none, none]) (μ := μ) (i := i) (by rfl)
        have v1 := abs_eq (eVar 1) (ρ := [some (.d (Vl.int i).D), some (.d (Vl.int j).D), some (.d (.int 0)), none, none, none, none]) (μ := μ) (i := j) (by rfl)
        exact ⟨_, seq_asg s1 (seq_nx s2 (seq_pass s3 (seq_hit t0 (ret_eq (de_eq (an_cons v0 (an_cons v1 an_nil)) (sign_i _ _ μ))))))⟩
      have t0 := tst 0
      rw [decide_eq_false k0] at t0
      by_cases k1 : a.kind = 1
      · have t1 := tst 1
        rw [decide_eq_true k1] at t1
        cases a <;> first | (simp [Vl.kind] at k1; done) | skip
        cases b <;> first | (simp [Vl.kind] at ek; done) | skip
        rename_i i j
        have hr : (if (Vl.str i).hd = (Vl.str j).hd then lcmp g (Vl.str i).named (Vl.str j).named else kcmp (Vl.str i).hd (Vl.str j).hd) = scmp i j := by
          have hs : kcmp (Vl.str i).hx (Vl.str j).hx = scmp i j := by
            show kcmp [.s i] [.s j] = _
            rw [scmp_tk, kcmp_self]
            split
            · rename_i z; rw [scmp, if_pos z]
            · rfl
          rw [← hs]
          split
          · rename_i z
            exact (kcmp_eq0.mpr z).symm.trans hh
          · exact hh
        rw [hr]
        exact ⟨_, seq_asg s1 (seq_nx s2 (seq_pass s3 (seq_pass t0 (seq_hit t1 (ret_eq (de_eq (an_cons (v_eq rfl) (an_cons (v_eq rfl) an_nil)) (sign_s i j μ)))))))⟩
      have t1 := tst 1
      rw [decide_eq_false k1] at t1
      have s4 : eFz (cLst (aCons (eC (.str "")) (aCons (eC (.str "")) aNil))) [some (.d a.D), some (.d b.D), some (.d (.int 0)), none, none, none, none] μ = some (.ok (.d (nmL "" "")) μ) := fl_eq (ds := [.str "", .str ""]) (an_cons rfl (an_cons rfl an_nil)) (by show (2 : Nat) ≤ 16777216; decide)
      by_cases k4 : a.kind = 4
      · have t4 := tst2 4
        rw [decide_eq_true k4] at t4
        cases a <;> first | (simp [Vl.kind] at k4; done) | skip
        cases b <;> first | (simp [Vl.kind] at ek; done) | skip
        rename_i s v t w
        have i0 : ∀ ρ, slotT ρ 0 = some (.d (Vl.tag s v).D) → eOp gIx (eVar 0) (eC (.int 0)) ρ μ = some (.ok (.d (.str s)) μ) := fun ρ h => op_eq' (y := .d (.int 0)) (μ2 := μ) (v_eq h) rfl (by simp [Vl.D, gIx, gIx2, lstOf, tupOf, ixT])
        have i1 : ∀ ρ, slotT ρ 0 = some (.d (Vl.tag s v).D) → eOp gIx (eVar 0) (eC (.int 1)) ρ μ = some (.ok (.d v.D) μ) := fun ρ h => op_eq' (y := .d (.int 1)) (μ2 := μ) (v_eq h) rfl (by simp [Vl.D, gIx, gIx2, lstOf, tupOf, ixT])
        have j0 : ∀ ρ, slotT ρ 1 = some (.d (Vl.tag t w).D) → eOp gIx (eVar 1) (eC (.int 0)) ρ μ = some (.ok (.d (.str t)) μ) := fun ρ h => op_eq' (y := .d (.int 0)) (μ2 := μ) (v_eq h) rfl (by simp [Vl.D, gIx, gIx2, lstOf, tupOf, ixT])
        have j1 : ∀ ρ, slotT ρ 1 = some (.d (Vl.tag t w).D) → eOp gIx (eVar 1) (eC (.int 1)) ρ μ = some (.ok (.d w.D) μ) := fun ρ h => op_eq' (y := .d (.int 1)) (μ2 := μ) (v_eq h) rfl (by simp [Vl.D, gIx, gIx2, lstOf, tupOf, ixT])
        have h1 := hf (s, v) List.mem_cons_self (t, w) List.mem_cons_self
        have hr : (if (Vl.tag s v).hd = (Vl.tag t w).hd then lcmp g (Vl.tag s v).named (Vl.tag t w).named else kcmp (Vl.tag s v).hd (Vl.tag t w).hd) = if s = t then g v w else scmp s t := by
          rw [if_pos (hx.mpr rfl)]
          show lcmp g [(s, v)] [(t, w)] = _
          rw [lcmp]
          by_cases e : s = t
          · rw [if_pos e, if_pos e]
            split
            · rename_i z; rw [z]; rfl
            · rfl
          · rw [if_neg e, if_neg e, scmp, if_neg e]
        rw [hr]
        have c1 : ∀ ρ, slotT ρ 0 = some (.d (Vl.tag s v).D) → slotT ρ 1 = some (.d (Vl.tag t w).D) → bE (eOp (gEqF true) (eOp gIx (eVar 0) (eC (.int 0))) (eOp gIx (eVar 1) (eC (.int 0)))) ρ μ = some (.ok (!decide (s = t)) μ) := fun ρ h h' => be_eq (op_eq' (i0 ρ h) (j0 ρ h') (by simp))
        by_cases e : s = t
        · rw [if_pos e]
          have c1 := c1 [some (.d (Vl.tag s v).D), some (.d (Vl.tag t w).D), some (.d (.int 0)), some (.d (nmL "" "")), none, none, none] rfl rfl
          rw [decide_eq_true e] at c1
          exact ⟨_, seq_asg s1 (seq_nx s2 (seq_pass s3 (seq_pass t0 (seq_pass t1 (seq_asg s4 (seq_hit t4 (seq_pass c1 (ret_eq (de_eq (an_cons (i1 _ rfl) (an_cons (j1 _ rfl) an_nil)) h1)))))))))⟩
        · rw [if_neg e]
          have c1 := c1 [some (.d (Vl.tag s v).D), some (.d (Vl.tag t w).D), some (.d (.int 0)), some (.d (nmL "" "")), none, none, none] rfl rfl
          rw [decide_eq_false e] at c1
          exact ⟨_, seq_asg s1 (seq_nx s2 (seq_pass s3 (seq_pass t0 (seq_pass t1 (seq_asg s4 (seq_hit t4 (seq_hit c1 (ret_eq (de_eq (an_cons (i0 _ rfl) (an_cons (j0 _ rfl) an_nil)) (sign_s s t μ))))))))))⟩
      have t4 := tst2 4
      rw [decide_eq_false k4] at t4
      have k2 : 2 ≤ a.kind := by cases a <;> simp [Vl.kind] at k0 k1 ⊢
      have hxe : a.hx = b.hx := by
        cases a <;> first | (simp [Vl.kind] at k2; done) | skip
        all_goals cases b <;> first | (simp [Vl.kind] at ek; done) | skip
        all_goals rfl
      have hd := hx.mpr hxe
      rw [if_pos hd]
      have p1 := law_parts_eq wa μ
      have p2 := law_parts_eq wb μ
      obtain ⟨ρ, hl, y2, y3, y6, hρ⟩ := lb_loop wa wb ek k2 k4 hf (min a.named.length b.named.length) 0 (x2 := some (.d (.int 0))) (x6 := none) (s := "") (t := "") (fun _ => ⟨rfl, rfl⟩) (by omega)
      rw [List.drop_zero, List.drop_zero] at hl
      have la : a.parts.length = a.named.length := by rw [← named_parts, List.length_map]
      have lb : b.parts.length = b.named.length := by rw [← named_parts, List.length_map]
      have wla := named_len wa
      have wlb := named_len wb
      have hn : eB gMin (aCons (eB gLen (aCons (eVar 4) aNil)) (aCons (eB gLen (aCons (eVar 5) aNil)) aNil)) [some (.d a.D), some (.d b.D), some (.d (.int 0)), some (.d (nmL "" "")), some (.d (.lst (a.parts.map Vl.D))), some (.d (.lst (b.parts.map Vl.D))), none] μ = some (.ok (.d (.int ((min a.named.length b.named.length : Nat) : Int))) μ) := by
        have : ((min a.named.length b.named.length : Nat) : Int) = if ((b.named.length : Nat) : Int) < (a.named.length : Nat) then ((b.named.length : Nat) : Int) else ((a.named.length : Nat) : Int) := by split <;> omega
        rw [this]
        simp [eB, ofG, gLen, lenT, lstOf, gMin, la, lb]
      have hi := irg_eq (j := ((min a.named.length b.named.length : Nat) : Int)) (n := min a.named.length b.named.length) rfl (by omega) hn
      rw [List.range_eq_range'] at hi
      have hfor := for_eq (gf := gN 6) (f := lbBody f) hi hl
      have a1 : eDef F__law_parts (aCons (eVar 0) aNil) [some (.d a.D), some (.d b.D), some (.d (.int 0)), some (.d (nmL "" "")), none, none, none] μ = some (.ok (.d (.lst (a.parts.map Vl.D))) μ) := de_eq (an_cons (v_eq rfl) an_nil) p1
      have a2 : eDef F__law_parts (aCons (eVar 1) aNil) [some (.d a.D), some (.d b.D), some (.d (.int 0)), some (.d (nmL "" "")), some (.d (.lst (a.parts.map Vl.D))), none, none] μ = some (.ok (.d (.lst (b.parts.map Vl.D))) μ) := de_eq (an_cons (v_eq rfl) an_nil) p2
      by_cases z : lcmp g a.named b.named = 0
      · rw [if_pos z] at hfor
        have hle := hz hd z
        rw [z]
        subst hρ
        have z3 : icmp ((b.named.length : Nat) : Int) ((b.named.length : Nat) : Int) = 0 := by unfold icmp; rw [if_neg (by omega), if_neg (by omega)]
        refine ⟨_, seq_asg s1 (seq_nx s2 (seq_pass s3 (seq_pass t0 (seq_pass t1 (seq_asg s4 (seq_pass t4 (seq_asg a1 (seq_asg a2 (seq_nx hfor (ret_eq ?_))))))))))⟩
        simp [eB, ofG, gLen, lenT, lstOf, la, lb, hle, sign_i, z3]
      · rw [if_neg z] at hfor
        exact ⟨_, seq_asg s1 (seq_nx s2 (seq_pass s3 (seq_pass t0 (seq_pass t1 (seq_asg s4 (seq_pass t4 (seq_asg a1 (seq_asg a2 (seq_ret hfor)))))))))⟩
    · have z2 : icmp a.kind b.kind ≠ 0 := by unfold icmp; split <;> (try split) <;> omega
      rw [if_neg z2] at hh
      rw [if_neg (hdn (.inr ek)), hh]
      exact ⟨_, seq_asg s1 (seq_nx s2 (seq_hit (by simp [z2]) (ret_eq rfl)))⟩
  · have z1 : icmp a.size b.size ≠ 0 := by unfold icmp; split <;> (try split) <;> omega
    rw [if_neg z1] at hh
    rw [if_neg (hdn (.inl es)), hh]
    exact ⟨_, seq_asg s1 (seq_nx (if_f (μ' := μ) (by simp [z1]) rfl) (seq_hit (by simp [z1]) (ret_eq rfl)))⟩
theorem lb_eq (μ : Mu) : ∀ (n : Nat) {a b : Vl}, a.Wf → b.Wf → n ≤ 2 → a.dep ≤ n → b.dep ≤ n → F__law_before (n + 1) [.d a.D, .d b.D] μ = some (.ok (.d (.int (vcmp n a b))) μ)
  | 0, a, b, wa, wb, hn, da, db => by
    rw [vcmp_0 (by omega)]
    refine lb_of wa wb (law_size_eq μ 2 wa (by omega)) (law_size_eq μ 2 wb (by omega)) (fun p hp => by rw [named_nil (by omega)] at hp; cases hp) fun _ _ => ?_
    rw [named_nil (v := a) (by omega), named_nil (v := b) (by omega)]
  | n + 1, a, b, wa, wb, hn, da, db => by
    unfold vcmp
    rw [key_cmp wa wb da db]
    refine lb_of wa wb (law_size_eq μ 2 wa (by omega)) (law_size_eq μ 2 wb (by omega)) (fun p hp q hq => lb_eq μ n (named_wf wa p hp) (named_wf wb q hq) (by omega) (named_dep wa da p hp) (named_dep wb db q hq)) fun h hl => ?_
    have hk : kcmp (a.key (n + 1)) (b.key (n + 1)) = 0 := by rw [key_cmp wa wb da db, if_pos h]; exact hl
    have := ((key_iff wa wb da db).mp (kcmp_zero hk)).2.2
    have := congrArg List.length this
    simpa [nk] using this
end Fm
set_option Elab.async false
set_option linter.all false
set_option maxRecDepth 100000
namespace Fm
open PySem L2 PySem.Spec PyProof.Rows
/-! ### copy_of -/
def Vl.cn : Nat → Vl → Vl
  | 0, v => v
  | n + 1, .lst xs => .lst (xs.map (Vl.cn n))
  | n + 1, .rc kvs => .rc ((fsort kvs).map fun p => (p.1, Vl.cn n p.2))
  | n + 1, .tag s v => .tag s (Vl.cn n v)
  | n + 1, v => v
theorem fsort_self {kvs : List (Str × Vl)} (hn : (kvs.map (·.1)).Nodup) (hs : sortS (kvs.map (·.1)) = kvs.map (·.1)) : fsort kvs = kvs := by
  unfold fsort
  rw [hs, List.map_map]
  conv => rhs; rw [← List.map_id kvs]
  refine List.map_congr_left fun p hp => ?_
  show (p.1, fget kvs p.1) = p
  rw [fget_mem hn (v := p.2) hp]
theorem sortS_sortS (l : List Str) : sortS (sortS l) = sortS l := srt_uniq (sortS_srt _) (sortS_srt _) (sortS_perm _)
theorem fsort_nodup {kvs : List (Str × Vl)} (hn : (kvs.map (·.1)).Nodup) : ((fsort kvs).map (·.1)).Nodup := by
  rw [fsort_names]
  exact (sortS_perm _).nodup_iff.mpr hn
theorem cn_fields {kvs : List (Str × Vl)} (hn : (kvs.map (·.1)).Nodup) (f : Vl → Vl) : fsort ((fsort kvs).map fun p => (p.1, f p.2)) = (fsort kvs).map fun p => (p.1, f p.2) := by
  have e : (((fsort kvs).map fun p => (p.1, f p.2)).map (·.1)) = sortS (kvs.map (·.1)) := by
    rw [List.map_map, ← fsort_names]
    rfl
  refine fsort_self ?_ ?_
  · rw [e, ← fsort_names]
    exact fsort_nodup hn
  · rw [e, sortS_sortS]
theorem named_cn {n : Nat} {v : Vl} (h : v.Wf) : (v.cn (n + 1)).named = v.named.map fun p => (p.1, p.2.cn n) := by
  cases v with
  | int => rfl
  | str => rfl
  | lst xs => simp [Vl.cn, Vl.named]
  | tag s w => rfl
  | rc kvs => exact cn_fields h.2.1 _
theorem cn_wf : ∀ (n : Nat) {v : Vl}, v.Wf → (v.cn n).Wf
  | 0, v, h => h
  | n + 1, .int i, h => h
  | n + 1, .str i, h => h
  | n + 1, .lst xs, h => ⟨by rw [List.length_map]; exact h.1, Vl.Wfs_all.mpr fun v hv => by
      obtain ⟨w, hw, e⟩ := List.mem_map.mp hv
      exact e ▸ cn_wf n (Vl.Wfs_all.mp h.2 w hw)⟩
  | n + 1, .tag s v, h => ⟨h.1, cn_wf n h.2⟩
  | n + 1, .rc kvs, h => by
    have hl : (fsort kvs).length = kvs.length := (fsort_perm h.2.1).length_eq
    refine ⟨by rw [List.length_map, hl]; exact h.1, ?_, Vl.Wfk_all.mpr fun p hp => ?_⟩
    · rw [List.map_map]
      exact fsort_nodup h.2.1
    · obtain ⟨q, hq, e⟩ := List.mem_map.mp hp
      have := Vl.Wfk_all.mp h.2.2 q ((fsort_perm h.2.1).mem_iff.mp hq)
      subst e
      exact ⟨this.1, cn_wf n this.2⟩
theorem cn_kind (n : Nat) (v : Vl) : (v.cn n).kind = v.kind := by
  cases n <;> cases v <;> rfl
theorem cn_hx (n : Nat) (v : Vl) : (v.cn n).hx = v.hx := by
  cases n <;> cases v <;> rfl
theorem cn_own1 (n : Nat) (v : Vl) : (v.cn n).own1 = v.own1 := own1_kind (cn_kind n v) (cn_hx n v)
theorem cn_size : ∀ (n : Nat) {v : Vl}, v.Wf → (v.cn n).size = v.size
  | 0, v, h => rfl
  | n + 1, v, h => by
    rw [named_sum (cn_wf (n + 1) h), named_sum h, cn_own1, named_cn h]
    unfold nsum
    rw [List.map_map]
    congr 2
    exact List.map_congr_left fun p hp => cn_size n (named_wf h p hp)
theorem cn_key : ∀ (m n : Nat) {v : Vl}, v.Wf → (v.cn n).key m = v.key m
  | 0, n, v, h => hd_eq (cn_size n h) (cn_kind n v) (cn_hx n v)
  | m + 1, 0, v, h => rfl
  | m + 1, n + 1, v, h => by
    rw [Vl.key, Vl.key, hd_eq (cn_size (n + 1) h) (cn_kind (n + 1) v) (cn_hx (n + 1) v), named_cn h]
    congr 1
    unfold row
    rw [List.flatMap_map]
    simp only [List.flatMap]
    congr 1
    exact List.map_congr_left fun p hp => by rw [cn_key m n (named_wf h p hp)]
theorem parts_cn {n : Nat} {v : Vl} (h : v.Wf) : (v.cn (n + 1)).parts = v.parts.map (Vl.cn n) := by
  rw [← named_parts, ← named_parts, named_cn h, List.map_map, List.map_map]
  rfl
theorem cn_dep : ∀ (n : Nat) {v : Vl}, v.Wf → (v.cn n).dep ≤ v.dep
  | 0, v, h => Nat.le_refl _
  | n + 1, v, h => by
    by_cases hk : 2 ≤ v.kind
    · rw [dep_own (cn_wf (n + 1) h) (by rw [cn_kind]; exact hk), dep_own h hk, parts_cn h]
      have := deps_le (n := Vl.deps v.parts) (xs := v.parts.map (Vl.cn n))
      have := this.mpr fun p hp => by
        obtain ⟨w, hw, e⟩ := List.mem_map.mp hp
        subst e
        exact Nat.le_trans (cn_dep n (parts_wf h w hw)) (deps_le.mp (Nat.le_refl _) w hw)
      omega
    · rw [dep_flat (v := v.cn (n + 1)) (by rw [cn_kind]; exact hk)]
      omega
theorem app_cell {μ : Mu} {n : Nat} {xs : List T} {y : T} (h : μ[n]? = some (.lst xs)) (hl : xs.length < SL) : gApp (.p n) [y] μ = some (.ok (.d .non) (μ.set n (.lst (xs ++ [y])))) := by
  simp only [gApp, lstC, h, if_pos hl]
theorem cp_loop {f : FN} {g : Vl → Vl} {μ : Mu} {x0 : Option T} : ∀ (ps : List Vl) (acc : List Vl) (x2 : Option T), (∀ p ∈ ps, ∀ ν : Mu, f [.d p.D] ν = some (.ok (.d (g p).D) ν)) → acc.length + ps.length ≤ 1000000 →
    ∃ y2, forL (gN 2) (sDrop (eBM yLst gApp (eVar 1) (aCons (eDef f (aCons (eVar 2) aNil)) aNil))) (ps.map fun p => T.d p.D) [x0, some (.p μ.length), x2] (μ ++ [stV acc]) = some (.ok (.nx, [x0, some (.p μ.length), y2]) (μ ++ [stV (acc ++ ps.map g)]))
  | [], acc, x2, _, _ => ⟨x2, by simp [forL]⟩
  | p :: ps, acc, x2, h, hl => by
    simp only [List.length_cons] at hl
    obtain ⟨y2, ih⟩ := cp_loop (x0 := x0) ps (acc ++ [g p]) (some (.d p.D)) (fun q hq => h q (List.mem_cons_of_mem _ hq)) (by simp; omega)
    have hg : (μ ++ [stV acc])[μ.length]? = some (.lst (acc.map fun p => T.d p.D)) := app_get
    have y := y_cell hg
    have ap := app_cell (y := T.d (g p).D) hg (by show (acc.map fun p => T.d p.D).length < 16777216; rw [List.length_map]; omega)
    rw [app_set] at ap
    have e : stV (acc ++ [g p]) = .lst ((acc.map fun p => T.d p.D) ++ [T.d (g p).D]) := by simp [stV]
    have h1 := h p List.mem_cons_self (μ ++ [stV acc])
    refine ⟨y2, for_step rfl (ρ2 := [x0, some (.p μ.length), some (.d p.D)]) (μ2 := μ ++ [stV (acc ++ [g p])]) ?_ ?_⟩
    · simp [eBM, y, h1, ap, e]
    · rw [ih]
      simp
theorem merge_nodup : ∀ (kvs : List (Str × Vl)) (acc : List (Key × T)), (kvs.map (·.1)).Nodup → (∀ p ∈ kvs, ∀ q ∈ acc, q.1 ≠ Sum.inr p.1) → mergeT acc (tk kvs) = acc ++ tk kvs
  | [], acc, _, _ => by simp [mergeT, tk]
  | (n, v) :: r, acc, hn, h => by
    obtain ⟨h1, h2⟩ := List.nodup_cons.mp hn
    have e : putT acc (.inr n) (T.d v.D) = acc ++ [(.inr n, T.d v.D)] := by
      unfold putT
      rw [if_neg]
      intro z
      obtain ⟨q, hq, e⟩ := List.any_eq_true.mp z
      exact h (n, v) List.mem_cons_self q hq (of_decide_eq_true e)
    show mergeT (putT acc (.inr n) (T.d v.D)) (tk r) = _
    rw [e, merge_nodup r _ h2 ?_]
    · simp [tk]
    · intro p hp q hq
      rcases List.mem_append.mp hq with q1 | q1
      · exact h p (List.mem_cons_of_mem _ hp) q q1
      · rw [List.mem_singleton.mp q1]
        intro z
        refine h1 ?_
        have : n = p.1 := by simpa using z
        rw [this]
        exact List.mem_map.mpr ⟨p, hp, rfl⟩
theorem keysT_strs : ∀ l : List Str, keysT (l.map fun s => T.d (.str s)) = some (l.map Sum.inr)
  | [] => rfl
  | s :: r => by simp [keysT, keyOf, keysT_strs r]
theorem zip_tk2 : ∀ (kvs : List (Str × Vl)), ((kvs.map (·.1)).map (Sum.inr : Str → Key)).zip (kvs.map fun p => T.d p.2.D) = tk kvs
  | [] => rfl
  | p :: r => by
    simp only [List.map_cons, List.zip_cons_cons]
    rw [zip_tk2 r]
    rfl
theorem fz_lst {μ : Mu} {n : Nat} {ds : List D} (h : μ[n]? = some (.lst (ds.map T.d))) : fzAtN μ n = some (μ.set n (.frz (.lst ds))) := by
  simp only [fzAtN, h, Cell.data, dTs_d, Option.map_some]
theorem sFz_eq {i n : Nat} {f : SF} {ρ : Rho} {μ μ' : Mu} (h : slotT ρ i = some (.p n)) (h2 : fzAtN μ n = some μ') : sFz i f ρ μ = f ρ μ' := by
  unfold sFz
  rw [h]
  simp only [h2]
/-- dict(zip(names, values)) -/
theorem dz_eq {f : AF} {ρ : Rho} {μ μ' : Mu} {kvs : List (Str × Vl)} {x y : T} (h : f ρ μ = some (.ok [x, y] μ')) (hx : rd μ' x = .d (.lst ((kvs.map (·.1)).map D.str))) (hy : rd μ' y = .d (.lst (kvs.map fun p => p.2.D))) (hn : (kvs.map (·.1)).Nodup) :
    eFz (cB gDZ f) ρ μ = some (.ok (.d (Vl.rc kvs).D) μ') := by
  have h1 : gDZ μ' [rd μ' x, rd μ' y] = some (.dct (tk kvs)) := by
    rw [hx, hy]
    have e1 : (((kvs.map (·.1)).map D.str).map T.d) = (kvs.map (·.1)).map fun s => T.d (.str s) := by rw [List.map_map]; rfl
    have e2 : ((kvs.map fun p => p.2.D).map T.d) = kvs.map fun p => T.d p.2.D := by rw [List.map_map]; rfl
    simp only [gDZ, lstOf, e1, e2, keysT_strs, Option.map_some, zip_tk2]
    rw [merge_nodup kvs [] hn (by simp)]
    rfl
  have h2 : cB gDZ f ρ μ = some (.ok (.dct (tk kvs)) μ') := by
    show mbind (f ρ) _ μ = _
    rw [mb_ok h]
    simp only [ofG, List.map_cons, List.map_nil, h1, mof]
  show mbind (cB gDZ f ρ) _ μ = _
  rw [mb_ok h2]
  simp only [fzC, Cell.data, dKs_tk, Option.map_some]
  rfl
theorem cp_of {n : Nat} {f : FN} {v : Vl} (h : v.Wf) (μ : Mu) (hf : ∀ p ∈ v.parts, ∀ ν : Mu, f [.d p.D] ν = some (.ok (.d (p.cn n).D) ν)) : fnB 3 (b_copy_of F_parts_of F_kind_of F__has_depth f) [.d v.D] μ = some (.ok (.d (v.cn (n + 1)).D) μ) := by
  have k1 := kind_eq v
  have k2 := has_depth_eq v
  have tst : ∀ (m : Int) (ρ : Rho) (ν : Mu), slotT ρ 0 = some (.d v.D) → bE (eOp (gEqF false) (eDef F_kind_of (aCons (eVar 0) aNil)) (eC (.int m))) ρ ν = some (.ok (decide (v.kind = m)) ν) := fun m ρ ν hs => be_eq (op_eq' (y := .d (.int m)) (μ2 := ν) (de_eq (an_cons (v_eq hs) an_nil) (k1 ν)) rfl (by simp))
  have td : ∀ (ρ : Rho) (ν : Mu), slotT ρ 0 = some (.d v.D) → bT (eDef F__has_depth (aCons (eVar 0) aNil)) ρ ν = some (.ok (decide (2 ≤ v.kind)) ν) := fun ρ ν hs => (mb_ok (de_eq (an_cons (v_eq hs) an_nil) (k2 ν))).trans (by simp)
  by_cases h4 : v.kind = 4
  · cases v <;> first | (simp [Vl.kind] at h4; done) | skip
    rename_i s w
    have t4 := tst 4 [some (.d (Vl.tag s w).D), none, none] μ rfl
    rw [decide_eq_true h4] at t4
    have i0 : eOp gIx (eVar 0) (eC (.int 0)) [some (.d (Vl.tag s w).D), none, none] μ = some (.ok (.d (.str s)) μ) := op_eq' (x := .d (Vl.tag s w).D) (y := .d (.int 0)) (μ1 := μ) (μ2 := μ) rfl rfl (by simp [Vl.D, gIx, gIx2, lstOf, tupOf, ixT])
    have i1 : eOp gIx (eVar 0) (eC (.int 1)) [some (.d (Vl.tag s w).D), none, none] μ = some (.ok (.d w.D) μ) := op_eq' (x := .d (Vl.tag s w).D) (y := .d (.int 1)) (μ1 := μ) (μ2 := μ) rfl rfl (by simp [Vl.D, gIx, gIx2, lstOf, tupOf, ixT])
    exact fnB_ret (seq_hit t4 (ret_eq (tu_eq (ds := [.str s, (w.cn n).D]) (an_cons i0 (an_cons (de_eq (an_cons i1 an_nil) (hf w List.mem_cons_self μ)) an_nil)) (by show (2 : Nat) ≤ 16777216; decide))))
  · have t4 := tst 4 [some (.d v.D), none, none] μ rfl
    rw [decide_eq_false h4] at t4
    have t5 := td [some (.d v.D), none, none] μ rfl
    have t5' : bNot (bT (eDef F__has_depth (aCons (eVar 0) aNil))) [some (.d v.D), none, none] μ = some (.ok (!decide (2 ≤ v.kind)) μ) := (mb_ok t5).trans rfl
    by_cases hk : 2 ≤ v.kind
    · rw [decide_eq_true hk] at t5'
      have hl := parts_len h
      obtain ⟨y2, hloop⟩ := cp_loop (x0 := some (.d v.D)) (μ := μ) (f := f) (g := Vl.cn n) v.parts [] none hf (by simp; omega)
      have n1 : eNew (cLst aNil) [some (.d v.D), none, none] μ = some (.ok (.p μ.length) (μ ++ [stV []])) := by simp [eNew, cLst, nwC, stV]
      have p1 : eDef F_parts_of (aCons (eVar 0) aNil) [some (.d v.D), some (.p μ.length), none] (μ ++ [stV []]) = some (.ok (.d (.lst (v.parts.map Vl.D))) (μ ++ [stV []])) := de_eq (an_cons (v_eq rfl) an_nil) (parts_eq h _)
      have hfor := for_eq (gf := gN 2) (iLst_eq (f := Vl.D) v.parts p1) hloop
      rw [List.nil_append] at hfor
      let ν : Mu := μ ++ [.frz (.lst ((v.parts.map (Vl.cn n)).map Vl.D))]
      have fz : fzAtN (μ ++ [stV (v.parts.map (Vl.cn n))]) μ.length = some ν := by
        have e : (μ ++ [stV (v.parts.map (Vl.cn n))])[μ.length]? = some (.lst (((v.parts.map (Vl.cn n)).map Vl.D).map T.d)) := by
          rw [app_get]
          unfold stV
          rw [List.map_map (g := T.d)]
          rfl
        rw [fz_lst e, app_set]
      have rdν : rd ν (.p μ.length) = .d (.lst ((v.parts.map (Vl.cn n)).map Vl.D)) := by simp [ν, fzAt]
      have hv1 : eVar 1 [some (.d v.D), some (.p μ.length), y2] ν = some (.ok (.p μ.length) ν) := rfl
      have fin : eIf (bE (eOp (gEqF false) (eDef F_kind_of (aCons (eVar 0) aNil)) (eC (.int 2)))) (eVar 1) (eFz (cB gDZ (aCons (eFz (cB gSorted (aCons (eVar 0) aNil))) (aCons (eVar 1) aNil)))) [some (.d v.D), some (.p μ.length), y2] ν = some (.ok (.d (v.cn (n + 1)).D) ν) ∨ eIf (bE (eOp (gEqF false) (eDef F_kind_of (aCons (eVar 0) aNil)) (eC (.int 2)))) (eVar 1) (eFz (cB gDZ (aCons (eFz (cB gSorted (aCons (eVar 0) aNil))) (aCons (eVar 1) aNil)))) [some (.d v.D), some (.p μ.length), y2] ν = some (.ok (.p μ.length) ν) ∧ (v.cn (n + 1)).D = .lst ((v.parts.map (Vl.cn n)).map Vl.D) := by
        have t2 := tst 2 [some (.d v.D), some (.p μ.length), y2] ν rfl
        cases v with
        | int => simp [Vl.kind] at hk
        | str => simp [Vl.kind] at hk
        | tag => simp [Vl.kind] at h4
        | lst xs =>
          refine .inr ⟨(mb_ok t2).trans rfl, ?_⟩
          rw [Vl.cn, Vl.D, Vl.Ds_map]
          rfl
        | rc kvs =>
          refine .inl ((mb_ok t2).trans ?_)
          have hs : eFz (cB gSorted (aCons (eVar 0) aNil)) [some (.d (Vl.rc kvs).D), some (.p μ.length), y2] ν = some (.ok (.d (.lst ((sortS (kvs.map (·.1))).map D.str))) ν) := sorted_eq h.1 (by simp [Vl.D])
          have := dz_eq (kvs := (fsort kvs).map fun p => (p.1, p.2.cn n)) (an_cons hs (an_cons hv1 an_nil)) (by
            rw [← fsort_names]
            simp [List.map_map, Function.comp_def]) (by
            rw [rdν]
            simp [Vl.parts, List.map_map, Function.comp_def]) (by
            rw [List.map_map]
            exact fsort_nodup h.2.1)
          exact this
      have r1 : sRet (eIf (bE (eOp (gEqF false) (eDef F_kind_of (aCons (eVar 0) aNil)) (eC (.int 2)))) (eVar 1) (eFz (cB gDZ (aCons (eFz (cB gSorted (aCons (eVar 0) aNil))) (aCons (eVar 1) aNil))))) [some (.d v.D), some (.p μ.length), y2] ν = some (.ok (.ret (.d (v.cn (n + 1)).D), [some (.d v.D), some (.p μ.length), y2]) ν) := by
        rcases fin with q | ⟨q, q2⟩
        · exact ret_eq q
        · refine (mb_ok q).trans ?_
          rw [rdν, q2]
      have r2 : sFz 1 (sRet (eIf (bE (eOp (gEqF false) (eDef F_kind_of (aCons (eVar 0) aNil)) (eC (.int 2)))) (eVar 1) (eFz (cB gDZ (aCons (eFz (cB gSorted (aCons (eVar 0) aNil))) (aCons (eVar 1) aNil)))))) [some (.d v.D), some (.p μ.length), y2] (μ ++ [stV (v.parts.map (Vl.cn n))]) = some (.ok (.ret (.d (v.cn (n + 1)).D), [some (.d v.D), some (.p μ.length), y2]) ν) := by
        exact (sFz_eq rfl fz).trans r1
      exact fnB_own (seq_pass t4 (seq_pass t5' (seq_asg n1 (seq_nx hfor r2))))
    · rw [decide_eq_false hk] at t5'
      have e : v.cn (n + 1) = v := by cases v <;> first | rfl | exact absurd (by simp [Vl.kind]) hk
      rw [e]
      exact fnB_ret (seq_pass t4 (seq_hit t5' (ret_eq rfl)))
end Fm
set_option Elab.async false
set_option linter.all false
set_option maxRecDepth 100000
namespace Fm
open PySem L2 PySem.Spec PyProof.Rows
theorem cp_eq : ∀ (n : Nat) {v : Vl}, v.Wf → v.dep ≤ n → ∀ μ : Mu, F_copy_of (n + 1) [.d v.D] μ = some (.ok (.d (v.cn (n + 1)).D) μ)
  | 0, v, h, hd, μ => cp_of h μ fun p hp => by rw [dep_parts (by omega)] at hp; cases hp
  | n + 1, v, h, hd, μ => cp_of h μ fun p hp => cp_eq n (parts_wf h p hp) (parts_dep h hd p hp)
/-! ### least_among, least_of -/
def oD : Option Vl → D
  | none => .non
  | some v => v.D
def oMin (l : Option Vl) (x : Option Vl) : Option Vl := match x with
  | none => l
  | some v => match l with
    | none => some v
    | some w => if vcmp 2 v w < 0 then some v else l
/-- what the values of the law keep -/
structure Sm (v : Vl) : Prop where
  wf : v.Wf
  dep : v.dep ≤ 2
  size : v.size ≤ 1000000
theorem non_of (v : Vl) : isNon (.d v.D) = false := by cases v <;> rfl
theorem is_non (b : Bool) (μ : Mu) (o : Option Vl) : g2or (gIsN b) (gIsB b) μ (.d (oD o)) (.d .non) = some (.d (.bl (if b then o.isSome else o.isNone))) := by
  cases o with
  | none => cases b <;> rfl
  | some v =>
    have := non_of v
    cases b <;> simp only [g2or, oD, gIsN, this] <;> rfl
noncomputable def laBody : SF := sIf (bAnd (bE (eOp (g2or (gIsN true) (gIsB true)) (eVar 2) (eC .non))) (bOr (bE (eOp (g2or (gIsN false) (gIsB false)) (eVar 1) (eC .non))) (bE (eOp gLt (eDef (F_compare_values 3) (aCons (eVar 2) (aCons (eVar 1) aNil))) (eC (.int 0)))))) (sAsg (eVar 2) (gN 1)) sNx
theorem la_loop {μ : Mu} {x0 : Option T} : ∀ (xs : List (Option Vl)) (l : Option Vl) (x2 : Option T), (∀ v, some v ∈ xs → Sm v) → (∀ v, l = some v → Sm v) → ∃ y2, forL (gN 2) laBody (xs.map fun o => T.d (oD o)) [x0, some (.d (oD l)), x2] μ = some (.ok (.nx, [x0, some (.d (oD (xs.foldl oMin l))), y2]) μ)
  | [], l, x2, _, _ => ⟨x2, rfl⟩
  | x :: xs, l, x2, h, hl => by
    have hl' : ∀ v, oMin l x = some v → Sm v := by
      intro v e
      unfold oMin at e
      cases x with
      | none => exact hl v e
      | some w =>
        cases l with
        | none =>
          simp only [Option.some.injEq] at e
          exact e ▸ h w List.mem_cons_self
        | some u =>
          simp only at e
          split at e
          · simp only [Option.some.injEq] at e
            exact e ▸ h w List.mem_cons_self
          · exact hl v e
    obtain ⟨y2, ih⟩ := la_loop (μ := μ) (x0 := x0) xs (oMin l x) (some (.d (oD x))) (fun v hv => h v (List.mem_cons_of_mem _ hv)) hl'
    refine ⟨y2, for_step (ρ2 := [x0, some (.d (oD (oMin l x))), some (.d (oD x))]) (μ2 := μ) rfl ?_ ih⟩
    have c1 : bE (eOp (g2or (gIsN true) (gIsB true)) (eVar 2) (eC .non)) [x0, some (.d (oD l)), some (.d (oD x))] μ = some (.ok x.isSome μ) := be_eq (op_eq' (x := .d (oD x)) (y := .d .non) (μ1 := μ) (μ2 := μ) rfl rfl (is_non true μ x))
    have c2 : bE (eOp (g2or (gIsN false) (gIsB false)) (eVar 1) (eC .non)) [x0, some (.d (oD l)), some (.d (oD x))] μ = some (.ok l.isNone μ) := be_eq (op_eq' (x := .d (oD l)) (y := .d .non) (μ1 := μ) (μ2 := μ) rfl rfl (is_non false μ l))
    cases x with
    | none => exact if_f (μ' := μ) (band_f c1) rfl
    | some v =>
      cases l with
      | none => exact if_t (μ' := μ) (band_t c1 (bor_t c2)) rfl
      | some w =>
        have sv := h v List.mem_cons_self
        have sw := hl w rfl
        have c3 : bE (eOp gLt (eDef (F_compare_values 3) (aCons (eVar 2) (aCons (eVar 1) aNil))) (eC (.int 0))) [x0, some (.d (oD (some w))), some (.d (oD (some v)))] μ = some (.ok (decide (vcmp 2 v w < 0)) μ) :=
          be_eq (op_eq' (y := .d (.int 0)) (μ2 := μ) (de_eq (an_cons (v_eq rfl) (an_cons (v_eq rfl) an_nil)) (cv_eq μ 2 sv.wf sw.wf sv.size sw.size sv.dep sw.dep)) rfl (by simp))
        by_cases q : vcmp 2 v w < 0
        · rw [decide_eq_true q] at c3
          have e : oMin (some w) (some v) = some v := by simp [oMin, q]
          rw [e]
          exact if_t (μ' := μ) (band_t c1 (bor_f c2 c3)) rfl
        · rw [decide_eq_false q] at c3
          have e : oMin (some w) (some v) = some w := by simp [oMin, q]
          rw [e]
          exact if_f (μ' := μ) (band_t c1 (bor_f c2 c3)) rfl
theorem la_eq {xs : List (Option Vl)} (h : ∀ v, some v ∈ xs → Sm v) (μ : Mu) : F_least_among [.d (.lst (xs.map oD))] μ = some (.ok (.d (oD (xs.foldl oMin none))) μ) := by
  obtain ⟨y2, hl⟩ := la_loop (μ := μ) (x0 := some (.d (.lst (xs.map oD)))) xs none none h (fun v e => by cases e)
  exact fnB_ret (seq_asg (y := .d .non) (μ' := μ) rfl (seq_nx (for_eq (iLst_eq (f := oD) xs rfl) hl) (ret_eq rfl)))
theorem foldl_sm : ∀ {xs : List (Option Vl)} {l : Option Vl}, (∀ v, some v ∈ xs → Sm v) → (∀ v, l = some v → Sm v) → ∀ v, xs.foldl oMin l = some v → Sm v
  | [], l, _, hl => hl
  | x :: xs, l, h, hl => foldl_sm (xs := xs) (fun v hv => h v (List.mem_cons_of_mem _ hv)) (by
      intro v e
      unfold oMin at e
      cases x with
      | none => exact hl v e
      | some w =>
        cases l with
        | none =>
          simp only [Option.some.injEq] at e
          exact e ▸ h w List.mem_cons_self
        | some u =>
          simp only at e
          split at e
          · simp only [Option.some.injEq] at e
            exact e ▸ h w List.mem_cons_self
          · exact hl v e)
theorem lo_eq {xs : List (Option Vl)} (h : ∀ v, some v ∈ xs → Sm v) (μ : Mu) : F_least_of [.d (.lst (xs.map oD))] μ = some (.ok (.d (oD ((xs.foldl oMin none).map (Vl.cn 3)))) μ) := by
  have h1 : eDef F_least_among (aCons (eVar 0) aNil) [some (.d (.lst (xs.map oD))), none] μ = some (.ok (.d (oD (xs.foldl oMin none))) μ) := de_eq (an_cons (v_eq rfl) an_nil) (la_eq h μ)
  have hs := foldl_sm (l := none) h (fun v e => by cases e)
  generalize xs.foldl oMin none = o at h1 hs
  have c2 : bE (eOp (g2or (gIsN false) (gIsB false)) (eVar 1) (eC .non)) [some (.d (.lst (xs.map oD))), some (.d (oD o))] μ = some (.ok o.isNone μ) := be_eq (op_eq' (x := .d (oD o)) (y := .d .non) (μ1 := μ) (μ2 := μ) rfl rfl (is_non false μ o))
  refine fnB_ret (seq_asg h1 (ret_eq ((mb_ok c2).trans ?_)))
  cases o with
  | none => rfl
  | some v =>
    have s := hs v rfl
    exact de_eq (an_cons (v_eq rfl) an_nil) (cp_eq 2 s.wf s.dep μ)
/-! ### the law -/
theorem gn_sm {v : Vl} (h : Gn 2 v) : Sm v := ⟨h.wf, h.dep, by have := h.size; have e : bnd 2 = 40 := rfl; omega⟩
noncomputable def k2In : SF := (sSeq (sAsg (eDef (F_compare_values 3) (aCons (eVar 3) (aCons (eVar 7) aNil))) (gN 9))
    (sSeq (sIf (bOr (bT (eIsi "bool" (eVar 9))) (bOr (bE (eOp (gInQ true) (eVar 9) (eFz (cLst (aCons (eNeg (eC (.int 1))) (aCons (eC (.int 0)) (aCons (eC (.int 1)) aNil))))))) (bE (eOp (gEq true) (eVar 9) (eDef (F__law_before 3) (aCons (eVar 3) (aCons (eVar 7) aNil))))))) (sRet (eC (.bl false))) sNx)
    (sIf (bOr (bE (eOp (gEq true) (eVar 9) (eOp (gI fun i j => .int (i - j)) (eC (.int 0)) (eDef (F_compare_values 3) (aCons (eVar 7) (aCons (eVar 3) aNil)))))) (bE (eOp (gEq true) (eOp (gEq false) (eVar 9) (eC (.int 0))) (eAnd (eOp (gEq false) (eDef F_kind_of (aCons (eVar 3) aNil)) (eDef F_kind_of (aCons (eVar 7) aNil))) (eOp (gEq false) (eVar 3) (eVar 7)))))) (sRet (eC (.bl false))) sNx)))
theorem gEq_deq {d e : D} {b n : Bool} {μ : Mu} (hk : ki d = ki e) (h3 : 3 ≤ ki d) (h : deq 60 d e = some b) : gEq n μ (.d d) (.d e) = some (.d (.bl (if n then !b else b))) := by
  have hf : flat (.d d) = none := by cases d <;> first | rfl | (simp [ki] at h3)
  simp only [gEq, g2or, gEqF, hf, gEqT]
  rw [if_pos ⟨hk, h3⟩, h]
  rfl
theorem gEq_key {a b : Vl} (ha : a.Wf) (hb : b.Wf) (da : a.dep ≤ 60) (db : b.dep ≤ 60) (hk : a.kind = b.kind) (n : Bool) (μ : Mu) : gEq n μ (.d a.D) (.d b.D) = some (.d (.bl (if n then !decide (a.key 60 = b.key 60) else decide (a.key 60 = b.key 60)))) := by
  have h := deq_key 60 ha hb da db
  cases a <;> cases b <;> first | (simp [Vl.kind] at hk; done) | skip
  · have e := h.symm.trans (deq_int2 60 _ _)
    simp only [Option.some.injEq] at e
    rw [e]
    exact gEq_ii
  · have e := h.symm.trans (deq_str2 60 _ _)
    simp only [Option.some.injEq] at e
    rw [e]
    exact gEq_ss
  · exact gEq_deq rfl (by simp [Vl.D, ki]) h
  · exact gEq_deq rfl (by simp [Vl.D, ki]) h
  · exact gEq_deq rfl (by simp [Vl.D, ki]) h
theorem key_st : ∀ (n m : Nat) {v : Vl}, v.Wf → v.dep ≤ n → v.dep ≤ m → v.key n = v.key m
  | 0, 0, v, h, _, _ => rfl
  | 0, m + 1, v, h, hd, _ => by rw [Vl.key, Vl.key, named_nil (by omega)]; simp [row]
  | n + 1, 0, v, h, _, hd => by rw [Vl.key, Vl.key, named_nil (by omega)]; simp [row]
  | n + 1, m + 1, v, h, hn, hm => by
    rw [Vl.key, Vl.key]
    congr 1
    unfold row
    simp only [List.flatMap]
    congr 1
    exact List.map_congr_left fun p hp => by rw [key_st n m (named_wf h p hp) (named_dep h hn p hp) (named_dep h hm p hp)]
theorem k2_in {a b : Vl} (sa : Sm a) (sb : Sm b) {μ : Mu} {x0 x1 x2 x4 x5 x6 x8 x9 : Option T} : ∃ y9, k2In [x0, x1, x2, some (.d a.D), x4, x5, x6, some (.d b.D), x8, x9] μ = some (.ok (.nx, [x0, x1, x2, some (.d a.D), x4, x5, x6, some (.d b.D), x8, y9]) μ) := by
  have h1 := cv_eq μ 2 sa.wf sb.wf sa.size sb.size sa.dep sb.dep
  have h2 := cv_eq μ 2 sb.wf sa.wf sb.size sa.size sb.dep sa.dep
  have h3 := lb_eq μ 2 sa.wf sb.wf (Nat.le_refl _) sa.dep sb.dep
  have hneg : vcmp 2 b a = - vcmp 2 a b := kcmp_neg _ _
  have hz : vcmp 2 a b = 0 ↔ a.key 60 = b.key 60 := by
    have ha := sa.dep
    have hb := sb.dep
    unfold vcmp
    rw [kcmp_eq0, key_st 2 60 sa.wf ha (by omega), key_st 2 60 sb.wf hb (by omega)]
  have hv : vcmp 2 a b = -1 ∨ vcmp 2 a b = 0 ∨ vcmp 2 a b = 1 := kcmp_val _ _
  have ka := kind_eq a μ
  have kb := kind_eq b μ
  have hkk : a.key 60 = b.key 60 → a.kind = b.kind := key_kind
  have hgk := fun hk => gEq_key sa.wf sb.wf (by have := sa.dep; omega) (by have := sb.dep; omega) hk false μ
  rw [hneg] at h2
  generalize vcmp 2 a b = c at h1 h2 h3 hz hv
  let ρ : Rho := [x0, x1, x2, some (.d a.D), x4, x5, x6, some (.d b.D), x8, some (.d (.int c))]
  have s1 : eDef (F_compare_values 3) (aCons (eVar 3) (aCons (eVar 7) aNil)) [x0, x1, x2, some (.d a.D), x4, x5, x6, some (.d b.D), x8, x9] μ = some (.ok (.d (.int c)) μ) := de_eq (an_cons (v_eq rfl) (an_cons (v_eq rfl) an_nil)) h1
  have l3 : eFz (cLst (aCons (eNeg (eC (.int 1))) (aCons (eC (.int 0)) (aCons (eC (.int 1)) aNil)))) ρ μ = some (.ok (.d (.lst [.int (-1), .int 0, .int 1])) μ) := fl_eq (ds := [.int (-1), .int 0, .int 1]) (an_cons (x := .d (.int (-1))) (by simp [eNeg, negT]) (an_cons rfl (an_cons rfl an_nil))) (by show (3 : Nat) ≤ 16777216; decide)
  have c1 : bT (eIsi "bool" (eVar 9)) ρ μ = some (.ok false μ) := by simp [ρ]
  have c2 : bE (eOp (gInQ true) (eVar 9) (eFz (cLst (aCons (eNeg (eC (.int 1))) (aCons (eC (.int 0)) (aCons (eC (.int 1)) aNil)))))) ρ μ = some (.ok false μ) := by
    refine be_eq (op_eq' (x := .d (.int c)) (μ1 := μ) rfl l3 ?_)
    rcases hv with e | e | e <;> subst e <;> rfl
  have c3 : bE (eOp (gEq true) (eVar 9) (eDef (F__law_before 3) (aCons (eVar 3) (aCons (eVar 7) aNil)))) ρ μ = some (.ok false μ) := be_eq (op_eq' (x := .d (.int c)) (μ1 := μ) rfl (de_eq (an_cons (v_eq rfl) (an_cons (v_eq rfl) an_nil)) h3) (by simp))
  have c4 : bE (eOp (gEq true) (eVar 9) (eOp (gI fun i j => .int (i - j)) (eC (.int 0)) (eDef (F_compare_values 3) (aCons (eVar 7) (aCons (eVar 3) aNil))))) ρ μ = some (.ok false μ) := by
    refine be_eq (op_eq' (x := .d (.int c)) (y := .d (.int (0 - -c))) (μ1 := μ) (μ2 := μ) rfl (op_eq' (x := .d (.int 0)) (μ1 := μ) rfl (de_eq (an_cons (v_eq rfl) (an_cons (v_eq rfl) an_nil)) h2) (by simp)) ?_)
    have : c = 0 - -c := by omega
    simp
  have e1 : eOp (gEq false) (eVar 9) (eC (.int 0)) ρ μ = some (.ok (.d (.bl (decide (c = 0)))) μ) := op_eq' (x := .d (.int c)) (y := .d (.int 0)) (μ1 := μ) (μ2 := μ) rfl rfl (by simp)
  have e2 : eOp (gEq false) (eDef F_kind_of (aCons (eVar 3) aNil)) (eDef F_kind_of (aCons (eVar 7) aNil)) ρ μ = some (.ok (.d (.bl (decide (a.kind = b.kind)))) μ) := op_eq' (de_eq (an_cons (v_eq rfl) an_nil) ka) (de_eq (an_cons (v_eq rfl) an_nil) kb) (by simp)
  have e3 : eAnd (eOp (gEq false) (eDef F_kind_of (aCons (eVar 3) aNil)) (eDef F_kind_of (aCons (eVar 7) aNil))) (eOp (gEq false) (eVar 3) (eVar 7)) ρ μ = some (.ok (.d (.bl (decide (c = 0)))) μ) := by
    by_cases hk : a.kind = b.kind
    · rw [decide_eq_true hk] at e2
      refine eand_t e2 ?_
      have := op_eq' (x := .d a.D) (y := .d b.D) (ρ := ρ) (fa := eVar 3) (fb := eVar 7) (μ1 := μ) (μ2 := μ) rfl rfl (hgk hk)
      rw [this]
      simp [hz]
    · rw [decide_eq_false hk] at e2
      rw [eand_f e2]
      have : ¬ c = 0 := fun z => hk (hkk (hz.mp z))
      simp [this]
  have c5 : bE (eOp (gEq true) (eOp (gEq false) (eVar 9) (eC (.int 0))) (eAnd (eOp (gEq false) (eDef F_kind_of (aCons (eVar 3) aNil)) (eDef F_kind_of (aCons (eVar 7) aNil))) (eOp (gEq false) (eVar 3) (eVar 7)))) ρ μ = some (.ok false μ) := be_eq (op_eq' e1 e3 (by simp))
  exact ⟨_, seq_asg s1 (seq_pass (bor_f c1 (bor_f c2 c3)) (if_f (μ' := μ) (bor_f c4 c5) rfl))⟩
theorem gIx_p {μ : Mu} {n : Nat} {vs : List Vl} (h : μ[n]? = some (stV vs)) {i : Int} (h0 : 0 ≤ i) (h1 : i < vs.length) : ∃ v ∈ vs, gIx μ (.p n) (.d (.int i)) = some (.d v.D) := by
  obtain ⟨j, rfl⟩ := Int.eq_ofNat_of_zero_le h0
  have hj : j < vs.length := by omega
  refine ⟨vs[j], List.getElem_mem hj, ?_⟩
  have h' : j < (vs.map fun p => T.d p.D).length := by simpa using hj
  have := atI_at h'
  simp only [gIx, gIx2, lstOf, h, stV, ixT, this, Option.map_some]
  simp
end Fm
set_option Elab.async false
set_option linter.all false
set_option maxRecDepth 100000
namespace Fm
open PySem L2 PySem.Spec PyProof.Rows
def bMin (w v : Vl) : Vl := if vcmp 2 v w < 0 then v else w
theorem oMin_b (w v : Vl) : oMin (some w) (some v) = some (bMin w v) := by
  show (if vcmp 2 v w < 0 then some v else some w) = some (if vcmp 2 v w < 0 then v else w)
  split <;> rfl
theorem bMin_or (w v : Vl) : bMin w v = w ∨ bMin w v = v := by
  unfold bMin
  split
  · exact .inr rfl
  · exact .inl rfl
theorem bs_loop {μ : Mu} {x0 x1 x2 x5 x6 x7 x8 x9 : Option T} : ∀ (xs : List Vl) (b : Vl) (x3 : Option T), (∀ v ∈ xs, Sm v) → Sm b → ∃ y3, forL (gN 3) (sIf (bE (eOp gLt (eDef (F__law_before 3) (aCons (eVar 3) (aCons (eVar 4) aNil))) (eC (.int 0)))) (sAsg (eVar 3) (gN 4)) sNx) (xs.map fun v => T.d v.D) [x0, x1, x2, x3, some (.d b.D), x5, x6, x7, x8, x9] μ =
    some (.ok (.nx, [x0, x1, x2, y3, some (.d (xs.foldl bMin b).D), x5, x6, x7, x8, x9]) μ) ∧ Sm (xs.foldl bMin b)
  | [], b, x3, _, hb => ⟨x3, rfl, hb⟩
  | v :: xs, b, x3, h, hb => by
    have hv := h v List.mem_cons_self
    have hm : Sm (bMin b v) := by rcases bMin_or b v with e | e <;> rw [e] <;> assumption
    obtain ⟨y3, ih, hs⟩ := bs_loop (μ := μ) (x0 := x0) (x1 := x1) (x2 := x2) (x5 := x5) (x6 := x6) (x7 := x7) (x8 := x8) (x9 := x9) xs (bMin b v) (some (.d v.D)) (fun w hw => h w (List.mem_cons_of_mem _ hw)) hm
    have c : bE (eOp gLt (eDef (F__law_before 3) (aCons (eVar 3) (aCons (eVar 4) aNil))) (eC (.int 0))) [x0, x1, x2, some (.d v.D), some (.d b.D), x5, x6, x7, x8, x9] μ = some (.ok (decide (vcmp 2 v b < 0)) μ) :=
      be_eq (op_eq' (y := .d (.int 0)) (μ2 := μ) (de_eq (an_cons (v_eq rfl) (an_cons (v_eq rfl) an_nil)) (lb_eq μ 2 hv.wf hb.wf (Nat.le_refl _) hv.dep hb.dep)) rfl (by simp))
    refine ⟨y3, for_step rfl (ρ2 := [x0, x1, x2, some (.d v.D), some (.d (bMin b v).D), x5, x6, x7, x8, x9]) (μ2 := μ) ?_ ih, hs⟩
    by_cases q : vcmp 2 v b < 0
    · rw [decide_eq_true q] at c
      have e : bMin b v = v := by simp [bMin, q]
      rw [e]
      exact if_t c rfl
    · rw [decide_eq_false q] at c
      have e : bMin b v = b := by simp [bMin, q]
      rw [e]
      exact if_f c rfl
theorem in_loop {a : Vl} (sa : Sm a) {μ : Mu} {x0 x1 x2 x4 x5 x6 x8 : Option T} : ∀ (xs : List Vl) (x7 x9 : Option T), (∀ v ∈ xs, Sm v) → ∃ y7 y9, forL (gN 7) k2In (xs.map fun v => T.d v.D) [x0, x1, x2, some (.d a.D), x4, x5, x6, x7, x8, x9] μ = some (.ok (.nx, [x0, x1, x2, some (.d a.D), x4, x5, x6, y7, x8, y9]) μ)
  | [], x7, x9, _ => ⟨x7, x9, rfl⟩
  | v :: xs, x7, x9, h => by
    obtain ⟨y9, h1⟩ := k2_in sa (h v List.mem_cons_self) (μ := μ) (x0 := x0) (x1 := x1) (x2 := x2) (x4 := x4) (x5 := x5) (x6 := x6) (x8 := x8) (x9 := x9)
    obtain ⟨z7, z9, ih⟩ := in_loop sa (μ := μ) (x0 := x0) (x1 := x1) (x2 := x2) (x4 := x4) (x5 := x5) (x6 := x6) (x8 := x8) xs (some (.d v.D)) y9 fun w hw => h w (List.mem_cons_of_mem _ hw)
    exact ⟨z7, z9, for_step rfl h1 ih⟩
theorem out_loop {rows : List Vl} (hr : ∀ v ∈ rows, Sm v) {μ : Mu} {p : Nat} (hp : μ[p]? = some (.frz (.lst (rows.map Vl.D)))) {x0 x1 x4 x5 x6 x8 : Option T} : ∀ (xs : List Vl) (x3 x7 x9 : Option T), (∀ v ∈ xs, Sm v) →
    ∃ y3 y7 y9, forL (gN 3) (sFz 2 (sFor (iLst (eVar 2)) (gN 7) k2In)) (xs.map fun v => T.d v.D) [x0, x1, some (.p p), x3, x4, x5, x6, x7, x8, x9] μ = some (.ok (.nx, [x0, x1, some (.p p), y3, x4, x5, x6, y7, x8, y9]) μ)
  | [], x3, x7, x9, _ => ⟨x3, x7, x9, rfl⟩
  | v :: xs, x3, x7, x9, h => by
    obtain ⟨z7, z9, h1⟩ := in_loop (h v List.mem_cons_self) (μ := μ) (x0 := x0) (x1 := x1) (x2 := some (.p p)) (x4 := x4) (x5 := x5) (x6 := x6) (x8 := x8) rows x7 x9 hr
    obtain ⟨w3, w7, w9, ih⟩ := out_loop hr hp (x0 := x0) (x1 := x1) (x4 := x4) (x5 := x5) (x6 := x6) (x8 := x8) xs (some (.d v.D)) z7 z9 fun w hw => h w (List.mem_cons_of_mem _ hw)
    have fz : fzAtN μ p = some μ := by simp only [fzAtN, hp]
    have rdp : rd μ (.p p) = .d (.lst (rows.map Vl.D)) := by simp [fzAt, hp]
    have it : iLst (eVar 2) [x0, x1, some (.p p), some (.d v.D), x4, x5, x6, x7, x8, x9] μ = some (.ok (rows.map fun v => T.d v.D) μ) := by
      refine (mb_ok (v_eq rfl)).trans ?_
      rw [rdp]
      simp [lstD]
    exact ⟨w3, w7, w9, for_step rfl ((sFz_eq rfl fz).trans (for_eq it h1)) ih⟩
theorem law_k02_true (ns : List Int) (_ : ns.length ≤ 63) : ∃ μ, F_law_k02 [.d (.kl ns)] [] = some (.ok (.d (.bl true)) μ) := by
  obtain ⟨ds, hd⟩ := digits_ex ns []
  have hb : 0 < ([bx ds 0] : Mu).length := by simp
  have hl1 : ([bx ds 0] : Mu).length = 1 := rfl
  generalize hμ : ([bx ds 0] : Mu) = μ0 at hb hl1
  have hB : μ0 = Bx μ0 0 ds 0 := by rw [← hμ]; rfl
  have h1 : eNew (cLst (aCons (eDef F__law_digits (aCons (eVar 0) (aCons (eC (.int 0)) (aCons (eC (.int 63)) aNil)))) (aCons (eC (.int 0)) aNil))) [some (.d (.kl ns)), none, none, none, none, none, none, none, none, none] [] = some (.ok (.p 0) (Bx μ0 0 ds 0)) := by
    rw [← hB, ← hμ]
    simp [eNew, cLst, hd, SL, nwC, bx]
  obtain ⟨vs, j, hvl, hvs, hcomp⟩ := comp_ex (μ := μ0) (b := 0) (ds := ds) (i := 8) (el := eDef (F__law_value 3) (aCons (eVar 1) (aCons (eC (.int 2)) aNil))) (ρ := [some (.d (.kl ns)), some (.p 0), none, none, none, none, none, none, none, none]) (P := Gn 2) (fun x k => by
    obtain ⟨v, j, q1, q2⟩ := value_ex (b := 0) (ds := ds) 2 (μ := μ0) k hb
    exact ⟨v, j, q1, de_eq (an_cons (v_eq rfl) (an_cons rfl an_nil)) q2⟩) ((List.range 4).map fun (k : Nat) => T.d (.int k)) [] 0
  have hvl : vs.length = 4 := by rw [hvl]; rfl
  have hcc : cComp [8] (iRg rng1 (aCons (eC (.int 4)) aNil)) (gN 8) bTrue (eDef (F__law_value 3) (aCons (eVar 1) (aCons (eC (.int 2)) aNil))) [some (.d (.kl ns)), some (.p 0), none, none, none, none, none, none, none, none] (Bx μ0 0 ds 0) = some (.ok (stV vs) (Bx μ0 0 ds j)) := by
    refine (mb_ok (irg_eq (j := 4) (n := 4) rfl (by omega) (μ' := Bx μ0 0 ds 0) rfl)).trans ?_
    rw [if_pos (by simp [SL])]
    exact hcomp
  have h2 : eNew (cComp [8] (iRg rng1 (aCons (eC (.int 4)) aNil)) (gN 8) bTrue (eDef (F__law_value 3) (aCons (eVar 1) (aCons (eC (.int 2)) aNil)))) [some (.d (.kl ns)), some (.p 0), none, none, none, none, none, none, none, none] (Bx μ0 0 ds 0) = some (.ok (.p 1) (Bx (μ0 ++ [stV vs]) 0 ds j)) := by
    refine (mb_ok hcc).trans ?_
    rw [nwC, Bx_len, hl1, Bx_app hb]
  have hb1 : 0 < (μ0 ++ [stV vs]).length := by simp
  have g1 : ∀ k, (Bx (μ0 ++ [stV vs]) 0 ds k)[1]? = some (stV vs) := fun k => by
    have := Bx_top (ds := ds) (k := k) (c := stV vs) hb
    rwa [hl1] at this
  have d1 := draw_eq (μ := μ0 ++ [stV vs]) (b := 0) (ds := ds) (k := j) (m := 4) hb1 (by omega)
  have d2 := draw_eq (μ := μ0 ++ [stV vs]) (b := 0) (ds := ds) (k := j + 1) (m := 4) hb1 (by omega)
  have lo1 := drw_lo (ds := ds) (k := j) (m := 4) (by omega)
  have hi1 := drw_hi (ds := ds) (k := j) (m := 4) (by omega)
  have lo2 := drw_lo (ds := ds) (k := j + 1) (m := 4) (by omega)
  have hi2 := drw_hi (ds := ds) (k := j + 1) (m := 4) (by omega)
  generalize drw ds j 4 = m1 at d1 lo1 hi1
  generalize drw ds (j + 1) 4 = m2 at d2 lo2 hi2
  obtain ⟨w, hw, gw⟩ := gIx_p (g1 (j + 1)) lo1 (by rw [hvl]; omega)
  have rdp : ∀ k, rd (Bx (μ0 ++ [stV vs]) 0 ds k) (.p 1) = .p 1 := fun k => rd_cell (g1 k)
  have e1 : eOp gIx (eVar 2) (eDef F__law_draw (aCons (eVar 1) (aCons (eC (.int 4)) aNil))) [some (.d (.kl ns)), some (.p 0), some (.p 1), none, none, none, none, none, none, none] (Bx (μ0 ++ [stV vs]) 0 ds j) = some (.ok (.d w.D) (Bx (μ0 ++ [stV vs]) 0 ds (j + 1))) :=
    op_eq' (x := .p 1) (μ1 := Bx (μ0 ++ [stV vs]) 0 ds j) rfl (de_eq (an_cons (v_eq rfl) (an_cons rfl an_nil)) d1) (by rw [rdp]; exact gw)
  have e2 : eDef F__law_draw (aCons (eVar 1) (aCons (eC (.int 4)) aNil)) [some (.d (.kl ns)), some (.p 0), some (.p 1), none, none, none, none, none, none, none] (Bx (μ0 ++ [stV vs]) 0 ds (j + 1)) = some (.ok (.d (.int m2)) (Bx (μ0 ++ [stV vs]) 0 ds (j + 1 + 1))) := de_eq (an_cons (v_eq rfl) (an_cons rfl an_nil)) d2
  have hset : setL (Bx (μ0 ++ [stV vs]) 0 ds (j + 1 + 1)) (.p 1) (.d (.int m2)) (.d w.D) = some ((Bx (μ0 ++ [stV vs]) 0 ds (j + 1 + 1)).set 1 (stV (vs.set m2.toNat w))) := by
    have hx : ixN 4 m2 = some m2.toNat := by
      have : m2 = 0 ∨ m2 = 1 ∨ m2 = 2 ∨ m2 = 3 := by omega
      rcases this with e | e | e | e <;> subst e <;> rfl
    have g1' : lstC (Bx (μ0 ++ [stV vs]) 0 ds (j + 1 + 1)) (.p 1) = some (1, vs.map fun p => T.d p.D) := by
      simp only [lstC, g1 (j + 1 + 1)]
      rfl
    simp only [setL, g1', List.length_map, hvl, hx, Option.map_some]
    unfold stV
    rw [List.map_set]
  have h3 : sPut setL (eOp gIx (eVar 2) (eDef F__law_draw (aCons (eVar 1) (aCons (eC (.int 4)) aNil)))) (eVar 2) (eDef F__law_draw (aCons (eVar 1) (aCons (eC (.int 4)) aNil))) [some (.d (.kl ns)), some (.p 0), some (.p 1), none, none, none, none, none, none, none] (Bx (μ0 ++ [stV vs]) 0 ds j) = some (.ok (.nx, [some (.d (.kl ns)), some (.p 0), some (.p 1), none, none, none, none, none, none, none]) ((Bx (μ0 ++ [stV vs]) 0 ds (j + 1 + 1)).set 1 (stV (vs.set m2.toNat w)))) := by
    refine (mb_ok e1).trans ((mb_ok (show eVar 2 _ _ = some (.ok (.p 1) _) from rfl)).trans ((mb_ok e2).trans ?_))
    simp only [rd, hset]
  have hrl : (vs.set m2.toNat w).length = 4 := by rw [List.length_set]; exact hvl
  have hrs : ∀ v ∈ vs.set m2.toNat w, Sm v := fun v hv => by
    rcases List.mem_or_eq_of_mem_set hv with e | e
    · exact gn_sm (hvs v e)
    · rw [e]; exact gn_sm (hvs w hw)
  generalize vs.set m2.toNat w = rows at h3 hrl hrs
  have hS : ((Bx (μ0 ++ [stV vs]) 0 ds (j + 1 + 1)).set 1 (stV rows))[1]? = some (.lst ((rows.map Vl.D).map T.d)) := by
    rw [List.getElem?_set_self (by rw [Bx_len]; simp [hl1])]
    unfold stV
    rw [List.map_map]
    rfl
  have fz1 := fz_lst hS
  have hS2 : (((Bx (μ0 ++ [stV vs]) 0 ds (j + 1 + 1)).set 1 (stV rows)).set 1 (.frz (.lst (rows.map Vl.D))))[1]? = some (.frz (.lst (rows.map Vl.D))) := by
    rw [List.getElem?_set_self (by rw [List.length_set, Bx_len]; simp [hl1])]
  generalize ((Bx (μ0 ++ [stV vs]) 0 ds (j + 1 + 1)).set 1 (stV rows)) = S1 at h3 fz1 hS2
  generalize (S1.set 1 (.frz (.lst (rows.map Vl.D)))) = S at fz1 hS2
  have fz2 : fzAtN S 1 = some S := by simp only [fzAtN, hS2]
  have rdS : rd S (.p 1) = .d (.lst (rows.map Vl.D)) := by simp [fzAt, hS2]
  obtain ⟨r0, r1, r2, r3, rfl⟩ : ∃ r0 r1 r2 r3, rows = [r0, r1, r2, r3] := by
    match rows, hrl with
    | [a, b, c, d], _ => exact ⟨a, b, c, d, rfl⟩
  obtain ⟨y3, y7, y9, l1⟩ := out_loop hrs hS2 (x0 := some (.d (.kl ns))) (x1 := some (.p 0)) (x4 := none) (x5 := none) (x6 := none) (x8 := none) [r0, r1, r2, r3] none none none hrs
  have it : ∀ ρ : Rho, slotT ρ 2 = some (.p 1) → iLst (eVar 2) ρ S = some (.ok ([r0, r1, r2, r3].map fun v => T.d v.D) S) := fun ρ h => by
    refine (mb_ok (v_eq h)).trans ?_
    rw [rdS]
    simp [lstD]
  have s0 : Sm r0 := hrs r0 (by simp)
  have gi : ∀ (i : Int) (r : Vl), (i = 0 ∧ r = r0) ∨ (i = 1 ∧ r = r1) ∨ (i = 2 ∧ r = r2) ∨ (i = 3 ∧ r = r3) → ∀ ρ : Rho, slotT ρ 2 = some (.p 1) → eOp gIx (eVar 2) (eC (.int i)) ρ S = some (.ok (.d r.D) S) := by
    intro i r h ρ hs
    refine op_eq' (y := .d (.int i)) (μ2 := S) (v_eq hs) rfl ?_
    rw [rdS]
    rcases h with ⟨e, e2⟩ | ⟨e, e2⟩ | ⟨e, e2⟩ | ⟨e, e2⟩ <;> subst e e2
    · exact lst_at (f := Vl.D) (l := [r, r1, r2, r3]) (k := 0) rfl
    · exact lst_at (f := Vl.D) (l := [r0, r, r2, r3]) (k := 1) rfl
    · exact lst_at (f := Vl.D) (l := [r0, r1, r, r3]) (k := 2) rfl
    · exact lst_at (f := Vl.D) (l := [r0, r1, r2, r]) (k := 3) rfl
  obtain ⟨z3, l2, hbest⟩ := bs_loop (μ := S) (x0 := some (.d (.kl ns))) (x1 := some (.p 0)) (x2 := some (.p 1)) (x5 := none) (x6 := none) (x7 := y7) (x8 := none) (x9 := y9) [r0, r1, r2, r3] r0 y3 hrs s0
  have hfold : [none, some r0, some r1, none, some r2, some r3].foldl oMin none = some ([r0, r1, r2, r3].foldl bMin r0) := by
    have e0 : bMin r0 r0 = r0 := by rcases bMin_or r0 r0 with e | e <;> exact e
    simp only [List.foldl_cons, List.foldl_nil, oMin_b, e0]
    have a1 : oMin none none = none := rfl
    have a2 : oMin none (some r0) = some r0 := rfl
    have a3 : ∀ x, oMin (some x) none = some x := fun _ => rfl
    simp only [a1, a2, a3, oMin_b]
  have hlo := lo_eq (xs := [none, some r0, some r1, none, some r2, some r3]) (fun v hv => by
    simp only [List.mem_cons, Option.some.injEq, List.not_mem_nil, or_false, reduceCtorEq, false_or] at hv
    refine hrs v ?_
    simp only [List.mem_cons, List.not_mem_nil, or_false]
    exact hv) S
  rw [hfold] at hlo
  generalize [r0, r1, r2, r3].foldl bMin r0 = best at l2 hbest hlo
  have l1' : sFor (iLst (eVar 2)) (gN 3) (sFz 2 (sFor (iLst (eVar 2)) (gN 7) k2In)) [some (.d (.kl ns)), some (.p 0), some (.p 1), none, none, none, none, none, none, none] S = some (.ok (.nx, [some (.d (.kl ns)), some (.p 0), some (.p 1), y3, none, none, none, y7, none, y9]) S) := for_eq (it _ rfl) l1
  have m1' : eFz (cLst (aCons (eC .non) (aCons (eOp gIx (eVar 2) (eC (.int 0))) (aCons (eOp gIx (eVar 2) (eC (.int 1))) (aCons (eC .non) (aCons (eOp gIx (eVar 2) (eC (.int 2))) (aCons (eOp gIx (eVar 2) (eC (.int 3))) aNil))))))) [some (.d (.kl ns)), some (.p 0), some (.p 1), z3, some (.d best.D), none, none, y7, none, y9] S = some (.ok (.d (.lst ([none, some r0, some r1, none, some r2, some r3].map oD))) S) :=
    fl_eq (ds := [none, some r0, some r1, none, some r2, some r3].map oD) (an_cons rfl (an_cons (gi 0 r0 (by simp) _ rfl) (an_cons (gi 1 r1 (by simp) _ rfl) (an_cons rfl (an_cons (gi 2 r2 (by simp) _ rfl) (an_cons (gi 3 r3 (by simp) _ rfl) an_nil)))))) (by show (6 : Nat) ≤ 16777216; decide)
  let ρ1 : Rho := [some (.d (.kl ns)), some (.p 0), some (.p 1), z3, some (.d best.D), some (.d (.lst ([none, some r0, some r1, none, some r2, some r3].map oD))), some (.d (best.cn 3).D), y7, none, y9]
  have t1 : eDef F_least_of (aCons (eVar 5) aNil) [some (.d (.kl ns)), some (.p 0), some (.p 1), z3, some (.d best.D), some (.d (.lst ([none, some r0, some r1, none, some r2, some r3].map oD))), none, y7, none, y9] S = some (.ok (.d (best.cn 3).D) S) := de_eq (an_cons (v_eq rfl) an_nil) hlo
  have wcn := cn_wf 3 hbest.wf
  have dcn := Nat.le_trans (cn_dep 3 hbest.wf) hbest.dep
  have kcn := cn_kind 3 best
  have c1 : bE (eOp (gEq true) (eDef F_kind_of (aCons (eVar 6) aNil)) (eDef F_kind_of (aCons (eVar 4) aNil))) ρ1 S = some (.ok false S) := be_eq (op_eq' (de_eq (an_cons (v_eq rfl) an_nil) (kind_eq _ S)) (de_eq (an_cons (v_eq rfl) an_nil) (kind_eq _ S)) (by simp [kcn]))
  have c2 : bE (eOp (gEq true) (eVar 6) (eVar 4)) ρ1 S = some (.ok false S) := by
    refine be_eq (op_eq' (x := .d (best.cn 3).D) (y := .d best.D) (μ1 := S) (μ2 := S) rfl rfl ?_)
    show gEq true S (.d (best.cn 3).D) (.d best.D) = _
    rw [gEq_key wcn hbest.wf (by omega) (by have := hbest.dep; omega) kcn true S, cn_key 60 3 hbest.wf]
    simp
  have ln := lo_eq (xs := [none, none]) (fun v hv => by simp at hv) S
  have l0 := lo_eq (xs := []) (fun v hv => by simp at hv) S
  have f1 : eOp (g2or (gIsN false) (gIsB false)) (eDef F_least_of (aCons (eFz (cLst (aCons (eC .non) (aCons (eC .non) aNil)))) aNil)) (eC .non) ρ1 S = some (.ok (.d (.bl true)) S) := op_eq' (y := .d .non) (μ2 := S) (de_eq (an_cons (fl_eq (ds := [.non, .non]) (an_cons rfl (an_cons rfl an_nil)) (by show (2 : Nat) ≤ 16777216; decide)) an_nil) ln) rfl rfl
  have f2 : eOp (g2or (gIsN false) (gIsB false)) (eDef F_least_of (aCons (eFz (cLst aNil)) aNil)) (eC .non) ρ1 S = some (.ok (.d (.bl true)) S) := op_eq' (y := .d .non) (μ2 := S) (de_eq (an_cons (fl_eq (ds := []) an_nil (Nat.zero_le _)) an_nil) l0) rfl rfl
  exact fnB_any (seq_asg h1 (seq_asg h2 (seq_nx h3 ((sFz_eq rfl fz1).trans (seq_nx l1' (seq_asg (gi 0 r0 (by simp) _ rfl) ((sFz_eq rfl fz2).trans (seq_nx (for_eq (it _ rfl) l2) (seq_asg m1' (seq_asg t1 (seq_pass (bor_f c1 c2) (ret_eq (eand_t f1 f2)))))))))))))
end Fm
set_option Elab.async false
set_option linter.all false
set_option maxRecDepth 100000
namespace Fm
open PySem L2 PySem.Spec PyProof.Rows
/-- _law_whole -/
def b__law_whole (f__law_draw : FN) : SF := (sSeq (sIf (bE (eOp (gEqF false) (eVar 1) (eC (.int 0)))) (sSeq (sAsg (eDef f__law_draw (aCons (eVar 0) (aCons (eOp gAdd (eB gLen (aCons (eVar 3) aNil)) (eC (.int 1))) aNil))) (gN 4))
    (sRet (eFz (cCat (eFz (cCat (eFz (cSlL (eVar 3) oNone (oSome (eVar 4)))) (eFz (cLst (aCons (eVar 2) aNil))))) (eFz (cSlL (eVar 3) (oSome (eVar 4)) oNone)))))) sNx)
    (sSeq (sIf (bE (eOp (gEqF false) (eVar 1) (eC (.int 1)))) (sSeq (sAsg (eNew (cDisp (ppC (eC (.str "b")) (eVar 2) ppN))) (gN 5))
    (sSeq (sFor (iRg rng1 (aCons (eB gLen (aCons (eVar 3) aNil)) aNil)) (gN 6) (sPut setD (eOp gIx (eVar 3) (eVar 6)) (eVar 5) (eOp gIx (eC (.str "acd")) (eVar 6))))
    (sFz 5 (sRet (eVar 5))))) sNx)
    (sRet (eTup (aCons (eC (.str "t")) (aCons (eVar 2) aNil))))))
noncomputable def F__law_whole : FN := fnB 7 (b__law_whole (F__law_draw))
/-- law -/
def b_law_k03 (f__law_digits f__law_value f__law_draw f__law_whole f_compare_values f__law_before : FN) : SF := (sSeq (sAsg (eNew (cLst (aCons (eDef f__law_digits (aCons (eVar 0) (aCons (eC (.int 0)) (aCons (eC (.int 63)) aNil)))) (aCons (eC (.int 0)) aNil)))) (gN 1))
    (sSeq (sFor (iRg rng1 (aCons (eC (.int 3)) aNil)) (gN 2) (sSeq (sAsg (eDef f__law_value (aCons (eVar 1) (aCons (eC (.int 2)) aNil))) (gN 3))
    (sSeq (sAsg (eDef f__law_value (aCons (eVar 1) (aCons (eC (.int 2)) aNil))) (gN 4))
    (sSeq (sAsg (eFz (cComp [11] (iRg rng1 (aCons (eDef f__law_draw (aCons (eVar 1) (aCons (eC (.int 4)) aNil))) aNil)) (gN 11) bTrue (eDef f__law_value (aCons (eVar 1) (aCons (eC (.int 1)) aNil))))) (gN 5))
    (sSeq (sAsg (eDef f__law_draw (aCons (eVar 1) (aCons (eC (.int 3)) aNil))) (gN 6))
    (sSeq (sAsg (eOp gIx (eVar 1) (eC (.int 1))) (gN 7))
    (sSeq (sAsg (eDef f__law_whole (aCons (eVar 1) (aCons (eVar 6) (aCons (eVar 3) (aCons (eVar 5) aNil))))) (gN 8))
    (sSeq (sPut setL (eVar 7) (eVar 1) (eC (.int 1)))
    (sSeq (sAsg (eDef f__law_whole (aCons (eVar 1) (aCons (eVar 6) (aCons (eVar 4) (aCons (eVar 5) aNil))))) (gN 9))
    (sSeq (sIf (bE (eOp (gEqF true) (eDef f_compare_values (aCons (eVar 8) (aCons (eVar 9) aNil))) (eDef f__law_before (aCons (eVar 3) (aCons (eVar 4) aNil))))) (sRet (eC (.bl false))) sNx)
    (sSeq (sIf (bAnd (bE (eOp (gEqF false) (eVar 6) (eC (.int 0)))) (bE (eOp (gEqF true) (eDef f_compare_values (aCons (eVar 8) (aCons (eFz (cCat (eVar 8) (eFz (cLst (aCons (eVar 3) aNil))))) aNil))) (eNeg (eC (.int 1)))))) (sRet (eC (.bl false))) sNx)
    (sIf (bE (eOp (gEqF false) (eVar 6) (eC (.int 1)))) (sSeq (sAsg (eNew (cB gDict (aCons (eVar 8) aNil))) (gN 10))
    (sSeq (sPut setD (eVar 4) (eVar 10) (eC (.str "x")))
    (sFz 10 (sIf (bE (eOp (gEqF true) (eDef f_compare_values (aCons (eVar 8) (aCons (eRd (eVar 10)) aNil))) (eNeg (eC (.int 1))))) (sRet (eC (.bl false))) sNx)))) sNx))))))))))))
    (sRet (eC (.bl true)))))
noncomputable def F_law_k03 : FN := fnB 12 (b_law_k03 (F__law_digits) (F__law_value 3) (F__law_draw) (F__law_whole) (F_compare_values 4) (F__law_before 3))
end Fm
set_option Elab.async false
set_option linter.all false
set_option maxRecDepth 100000
namespace Fm
open PySem L2 PySem.Spec PyProof.Rows
/-! ### lesser parts make less -/
theorem value_ex2 {b : Nat} {ds : List Int} : ∀ (m n : Nat), n ≤ m → ∀ {μ : Mu} (k : Nat), b < μ.length → ∃ v j, Gn n v ∧ F__law_value (m + 1) [.p b, .d (.int n)] (Bx μ b ds k) = some (.ok (.d v.D) (Bx μ b ds j))
  | m, 0, _, μ, k, h => by
    obtain ⟨v, j, q1, q2⟩ := vbase (ds := ds) (k := k) (f := F__law_value m) (m := 0) h (.inl rfl)
    exact ⟨v, j, q1, q2⟩
  | 0, n + 1, hm, μ, k, h => by omega
  | m + 1, n + 1, hm, μ, k, h => by
    have h0 : ¬ (((n + 1 : Nat)) : Int) = 0 := by omega
    have hf : ∀ {μ : Mu} (k : Nat), b < μ.length → ∃ v j, Gn n v ∧ F__law_value (m + 1) [.p b, .d (.int (((n + 1 : Nat) : Int) - 1))] (Bx μ b ds k) = some (.ok (.d v.D) (Bx μ b ds j)) := by
      intro μ k h
      have := value_ex2 (ds := ds) m n (by omega) (μ := μ) k h
      rwa [show (((n + 1 : Nat) : Int) - 1) = (n : Int) from by omega]
    by_cases h2 : drw ds k 8 < 2
    · obtain ⟨v, j, q1, q2⟩ := vbase (ds := ds) (k := k) (f := F__law_value (m + 1)) (m := ((n + 1 : Nat) : Int)) h (.inr h2)
      exact ⟨v, j, .inl q1, q2⟩
    · by_cases h4 : drw ds k 8 < 4
      · obtain ⟨xs, j, q1, q2, q3⟩ := vlist (ds := ds) (k := k) (f := F__law_value (m + 1)) (P := Gn n) h h0 h2 h4 hf
        exact ⟨_, j, .inr (.inl ⟨xs, rfl, q1, q2⟩), q3⟩
      · by_cases h6 : drw ds k 8 < 6
        · obtain ⟨kvs, j, q1, q2, q3, q4⟩ := vdict (ds := ds) (k := k) (f := F__law_value (m + 1)) (P := Gn n) h h0 h2 h4 h6 hf
          exact ⟨_, j, .inr (.inr (.inl ⟨kvs, rfl, q1, q2, q3⟩)), q4⟩
        · obtain ⟨s, v, j, q1, q2, q3⟩ := vtag (ds := ds) (k := k) (f := F__law_value (m + 1)) (P := Gn n) h h0 h2 h4 h6 hf
          exact ⟨_, j, .inr (.inr (.inr ⟨s, v, rfl, q1, q2⟩)), q3⟩
/-! the order, by what is ahead -/
theorem size_less {n : Nat} {a b : Vl} (h : a.size < b.size) : vcmp n a b = -1 := by
  obtain ⟨r, h1⟩ := key_hd n a
  obtain ⟨r', h2⟩ := key_hd n b
  unfold vcmp
  rw [h1, h2]
  unfold Vl.hd
  simp only [List.cons_append]
  rw [icmp_tk]
  have : icmp a.size b.size = -1 := by unfold icmp; rw [if_pos (by omega)]
  rw [this]
  rfl
theorem size_cmp {n : Nat} {a b : Vl} (h : a.size ≠ b.size) : vcmp n a b = icmp a.size b.size := by
  obtain ⟨r, h1⟩ := key_hd n a
  obtain ⟨r', h2⟩ := key_hd n b
  unfold vcmp
  rw [h1, h2]
  unfold Vl.hd
  simp only [List.cons_append]
  rw [icmp_tk]
  have : icmp a.size b.size ≠ 0 := by unfold icmp; split <;> (try split) <;> omega
  rw [if_neg this]
theorem lcmp_mid {f : Vl → Vl → Int} (hf : ∀ v, f v v = 0) (n : Str) (a b : Vl) (post : List (Str × Vl)) : ∀ pre : List (Str × Vl), lcmp f (pre ++ (n, a) :: post) (pre ++ (n, b) :: post) = f a b
  | [] => by
    have hp : ∀ l : List (Str × Vl), lcmp f l l = 0 := by
      intro l
      induction l with
      | nil => rfl
      | cons p r ih => rw [lcmp, if_pos rfl, if_pos (hf _), ih]
    rw [List.nil_append, List.nil_append, lcmp, if_pos rfl, hp]
    split
    · rename_i e; rw [e]
    · rfl
  | p :: pre => by
    rw [List.cons_append, List.cons_append, lcmp, if_pos rfl, if_pos (hf _)]
    exact lcmp_mid hf n a b post pre
/-- a value within another one decides -/
theorem mid_cmp {n : Nat} {a b wa wb : Vl} (ha : wa.Wf) (hb : wb.Wf) (da : wa.dep ≤ n + 1) (db : wb.dep ≤ n + 1) (hk : wa.kind = wb.kind) (hx : wa.hx = wb.hx) {pre post : List (Str × Vl)} {s : Str} (na : wa.named = pre ++ (s, a) :: post) (nb : wb.named = pre ++ (s, b) :: post) : vcmp (n + 1) wa wb = vcmp n a b := by
  have sa := named_sum ha
  have sb := named_sum hb
  have e3 := own1_kind hk hx
  have ea : nsum wa.named = nsum pre + (a.size + nsum post) := by rw [na]; simp [nsum]
  have eb : nsum wb.named = nsum pre + (b.size + nsum post) := by rw [nb]; simp [nsum]
  by_cases e : a.size = b.size
  · unfold vcmp
    rw [key_cmp ha hb da db, if_pos (hd_eq (by omega) hk hx), na, nb]
    exact lcmp_mid (fun v => kcmp_self _) s a b post pre
  · rw [size_cmp e, size_cmp (by omega)]
    unfold icmp
    split <;> split <;> (try split) <;> (try split) <;> omega
/-! ### _law_whole -/
def recW (p : Vl) (vs : List Vl) : List (Str × Vl) := ("b", p) :: ((["a", "c", "d"] : List Str).zip vs)
def whl (kind : Int) (at' : Nat) (vs : List Vl) (p : Vl) : Vl := if kind = 0 then .lst (vs.take at' ++ [p] ++ vs.drop at') else if kind = 1 then .rc (recW p vs) else .tag "t" p
theorem cat_eq {fa fb : EF} {ρ : Rho} {μ μ1 μ2 : Mu} {as bs : List D} {x y : T} (ha : fa ρ μ = some (.ok x μ1)) (hb : fb ρ μ1 = some (.ok y μ2)) (hx : rd μ2 x = .d (.lst as)) (hy : rd μ2 y = .d (.lst bs)) (hl : as.length + bs.length ≤ SL) : eFz (cCat fa fb) ρ μ = some (.ok (.d (.lst (as ++ bs))) μ2) := by
  have : cCat fa fb ρ μ = some (.ok (.lst ((as ++ bs).map T.d)) μ2) := by
    refine (mb_ok ha).trans ((mb_ok hb).trans ?_)
    have : catC μ2 (rd μ2 x) (rd μ2 y) = some (.lst ((as ++ bs).map T.d)) := by
      rw [hx, hy]
      simp only [catC, lstTr, lstOf, List.length_map, if_pos hl, List.map_append]
    simp only [mof, this]
  exact (mb_ok this).trans (fz_of _)
theorem slL_eq {f : EF} {l u : OF} {ρ : Rho} {μ μ1 : Mu} {as : List D} {x : T} {lo hi : Option Int} (h : f ρ μ = some (.ok x μ1)) (hl : l ρ μ1 = some (.ok lo μ1)) (hu : u ρ μ1 = some (.ok hi μ1)) (hx : rd μ1 x = .d (.lst as)) : eFz (cSlL f l u) ρ μ = some (.ok (.d (.lst (cutL as lo hi))) μ1) := by
  have : cSlL f l u ρ μ = some (.ok (.lst ((cutL as lo hi).map T.d)) μ1) := by
    refine (mb_ok h).trans ((mb_ok hl).trans ((mb_ok hu).trans ?_))
    have : cutL (as.map T.d) lo hi = (cutL as lo hi).map T.d := by simp [cutL, List.map_take, List.map_drop]
    simp only [slL, hx, lstOf, Option.map_some, mof, this]
  exact (mb_ok this).trans (fz_of _)
theorem oSome_eq {f : EF} {ρ : Rho} {μ μ1 : Mu} {i : Int} (h : f ρ μ = some (.ok (.d (.int i)) μ1)) : oSome f ρ μ = some (.ok (some i) μ1) := (mb_ok h).trans (by simp [iOf])
theorem cut_to {α : Type} (xs : List α) (k : Nat) (h : k ≤ xs.length) : cutL xs none (some (k : Int)) = xs.take k := by
  unfold cutL
  rw [HT.sIx_none, HT.sIx_nat]
  simp [Nat.min_eq_left h]
theorem cut_from {α : Type} (xs : List α) (k : Nat) (h : k ≤ xs.length) : cutL xs (some (k : Int)) none = xs.drop k := by
  unfold cutL
  rw [HT.sIx_none, HT.sIx_nat, Nat.min_eq_left h]
  rw [List.take_of_length_le]
  simp
theorem acd_at {μ : Mu} : ∀ k : Nat, k < 3 → ∃ s, (["a", "c", "d"] : List Str)[k]? = some s ∧ gIx μ (.d (.str "acd")) (.d (.int k)) = some (.d (.str s))
  | 0, _ => ⟨_, rfl, rfl⟩
  | 1, _ => ⟨_, rfl, rfl⟩
  | 2, _ => ⟨_, rfl, rfl⟩
  | k + 3, h => by omega
theorem recW_put {p v : Vl} {vs : List Vl} {j : Nat} {s : Str} (hs : (["a", "c", "d"] : List Str)[j]? = some s) (hv : vs[j]? = some v) : kput (recW p (vs.take j)) s v = recW p (vs.take (j + 1)) := by
  have hj : j < 3 := by
    rcases Nat.lt_or_ge j 3 with h | h
    · exact h
    · rw [List.getElem?_eq_none (by simpa using h)] at hs; cases hs
  have ba : decide (("b" : Str) = "a") = false := by decide +kernel
  have bc : decide (("b" : Str) = "c") = false := by decide +kernel
  have bd : decide (("b" : Str) = "d") = false := by decide +kernel
  have ac : decide (("a" : Str) = "c") = false := by decide +kernel
  have ad : decide (("a" : Str) = "d") = false := by decide +kernel
  have cd : decide (("c" : Str) = "d") = false := by decide +kernel
  match j, vs with
  | 0, a :: _ =>
    simp at hs hv
    subst hs hv
    simp only [List.take_zero, List.take_succ_cons, recW, List.zip_nil_right, List.zip_cons_cons, kput, List.any_cons, List.any_nil, ba]
    rfl
  | 1, a :: b :: _ =>
    simp at hs hv
    subst hs hv
    simp only [List.take_zero, List.take_succ_cons, recW, List.zip_nil_right, List.zip_cons_cons, kput, List.any_cons, List.any_nil, bc, ac]
    rfl
  | 2, a :: b :: c :: _ =>
    simp at hs hv
    subst hs hv
    simp only [List.take_zero, List.take_succ_cons, recW, List.zip_nil_right, List.zip_cons_cons, kput, List.any_cons, List.any_nil, bd, ad, cd]
    rfl
theorem fsort_of {kvs l : List (Str × Vl)} (hp : l.Perm kvs) (hn : (l.map (·.1)).Nodup) (hs : sortS (l.map (·.1)) = l.map (·.1)) : fsort kvs = l := by
  have hn2 : (kvs.map (·.1)).Nodup := (hp.map (·.1)).nodup_iff.mp hn
  have e : sortS (kvs.map (·.1)) = sortS (l.map (·.1)) := srt_uniq (sortS_srt _) (sortS_srt _) ((sortS_perm _).trans ((hp.map (·.1)).symm.trans (sortS_perm _).symm))
  rw [← fsort_self hn hs]
  unfold fsort
  rw [e]
  refine List.map_congr_left fun n h => ?_
  have hm := (sortS_perm _).mem_iff.mp h
  obtain ⟨q, hq, e⟩ := List.mem_map.mp hm
  subst e
  rw [fget_mem hn (v := q.2) hq, fget_mem hn2 (v := q.2) (hp.mem_iff.mp hq)]
def preW (vs : List Vl) : List (Str × Vl) := match vs with
  | [] => []
  | a :: _ => [(("a" : Str), a)]
def postW (vs : List Vl) : List (Str × Vl) := (["c", "d"] : List Str).zip vs.tail
theorem recW_sort (p : Vl) {vs : List Vl} (h : vs.length ≤ 3) : fsort (recW p vs) = preW vs ++ (("b" : Str), p) :: postW vs ∧ ((recW p vs).map (·.1)).Nodup := by
  match vs, h with
  | [], _ =>
    have hn : ((preW [] ++ (("b" : Str), p) :: postW []).map (·.1)).Nodup := by show (["b"] : List Str).Nodup; decide +kernel
    have hp : (preW [] ++ (("b" : Str), p) :: postW []).Perm (recW p []) := List.Perm.refl _
    exact ⟨fsort_of hp hn (by show sortS (["b"] : List Str) = (["b"] : List Str); decide +kernel), (hp.map _).nodup_iff.mp hn⟩
  | [a], _ =>
    have hn : ((preW [a] ++ (("b" : Str), p) :: postW [a]).map (·.1)).Nodup := by show (["a", "b"] : List Str).Nodup; decide +kernel
    have hp : (preW [a] ++ (("b" : Str), p) :: postW [a]).Perm (recW p [a]) := List.Perm.swap _ _ _
    exact ⟨fsort_of hp hn (by show sortS (["a", "b"] : List Str) = (["a", "b"] : List Str); decide +kernel), (hp.map _).nodup_iff.mp hn⟩
  | [a, b], _ =>
    have hn : ((preW [a, b] ++ (("b" : Str), p) :: postW [a, b]).map (·.1)).Nodup := by show (["a", "b", "c"] : List Str).Nodup; decide +kernel
    have hp : (preW [a, b] ++ (("b" : Str), p) :: postW [a, b]).Perm (recW p [a, b]) := List.Perm.swap _ _ _
    exact ⟨fsort_of hp hn (by show sortS (["a", "b", "c"] : List Str) = (["a", "b", "c"] : List Str); decide +kernel), (hp.map _).nodup_iff.mp hn⟩
  | [a, b, c], _ =>
    have hn : ((preW [a, b, c] ++ (("b" : Str), p) :: postW [a, b, c]).map (·.1)).Nodup := by show (["a", "b", "c", "d"] : List Str).Nodup; decide +kernel
    have hp : (preW [a, b, c] ++ (("b" : Str), p) :: postW [a, b, c]).Perm (recW p [a, b, c]) := List.Perm.swap _ _ _
    exact ⟨fsort_of hp hn (by show sortS (["a", "b", "c", "d"] : List Str) = (["a", "b", "c", "d"] : List Str); decide +kernel), (hp.map _).nodup_iff.mp hn⟩
theorem recW_mem {p : Vl} {vs : List Vl} : ∀ q ∈ recW p vs, q.1 ∈ (["b", "a", "c", "d"] : List Str) ∧ (q.2 = p ∨ q.2 ∈ vs) := by
  intro q hq
  rcases List.mem_cons.mp hq with e | e
  · subst e
    exact ⟨by simp, .inl rfl⟩
  · have h := List.of_mem_zip e
    refine ⟨?_, .inr h.2⟩
    have := h.1
    simp only [List.mem_cons, List.not_mem_nil, or_false] at this ⊢
    exact .inr this
theorem abcd_len : ∀ s ∈ (["b", "a", "c", "d"] : List Str), s.length ≤ 1000 := by decide +kernel
theorem recW_len {p : Vl} {vs : List Vl} : (recW p vs).length ≤ 4 := by
  unfold recW
  rw [List.length_cons, List.length_zip]
  simp
  omega
/-- what the whole keeps -/
theorem whl_ok {kind : Int} {at' : Nat} {vs : List Vl} {p : Vl} (hl : vs.length ≤ 3) (hv : ∀ v ∈ vs, v.Wf ∧ v.dep ≤ 2 ∧ v.size ≤ 100) (hp : p.Wf ∧ p.dep ≤ 2 ∧ p.size ≤ 100) : (whl kind at' vs p).Wf ∧ (whl kind at' vs p).dep ≤ 3 ∧ (whl kind at' vs p).size ≤ 1000 := by
  unfold whl
  split
  · have hm : ∀ v ∈ vs.take at' ++ [p] ++ vs.drop at', v.Wf ∧ v.dep ≤ 2 ∧ v.size ≤ 100 := by
      intro v h
      simp only [List.mem_append, List.mem_singleton] at h
      rcases h with (h | h) | h
      · exact hv v (List.mem_of_mem_take h)
      · exact h ▸ hp
      · exact hv v (List.mem_of_mem_drop h)
    have hlen : (vs.take at' ++ [p] ++ vs.drop at').length ≤ 4 := by
      simp only [List.length_append, List.length_take, List.length_drop, List.length_singleton]
      omega
    generalize vs.take at' ++ [p] ++ vs.drop at' = l at hm hlen
    refine ⟨⟨by omega, Vl.Wfs_all.mpr fun v h => (hm v h).1⟩, ?_, ?_⟩
    · have := deps_le.mpr fun v h => (hm v h).2.1
      rw [Vl.dep]; omega
    · have h1 := sum_le (f := Vl.size) (B := 100) fun v h => (hm v h).2.2
      have h2 : l.length * 100 ≤ 4 * 100 := Nat.mul_le_mul_right _ hlen
      rw [Vl.size, Vl.sizes_sum]; omega
  · split
    · have hm : ∀ q ∈ recW p vs, q.2.Wf ∧ q.2.dep ≤ 2 ∧ q.2.size ≤ 100 := by
        intro q h
        rcases (recW_mem q h).2 with e | e
        · rw [e]; exact hp
        · exact hv _ e
      have hlen := recW_len (p := p) (vs := vs)
      refine ⟨⟨by omega, (recW_sort p hl).2, Vl.Wfk_all.mpr fun q h => ⟨abcd_len _ (recW_mem q h).1, (hm q h).1⟩⟩, ?_, ?_⟩
      · have := depk_le.mpr fun v h => (hm v h).2.1
        rw [Vl.dep]; omega
      · have h1 := sum_le (f := fun q : Str × Vl => q.2.size) (B := 100) fun v h => (hm v h).2.2
        have h2 : (recW p vs).length * 100 ≤ 4 * 100 := Nat.mul_le_mul_right _ hlen
        rw [Vl.size, Vl.sizek_sum]; omega
    · have : ("t" : Str).length ≤ 1000 := by decide +kernel
      refine ⟨⟨this, hp.1⟩, ?_, ?_⟩
      · rw [Vl.dep]; omega
      · rw [Vl.size]; omega
theorem whl_cmp {kind : Int} {at' : Nat} {vs : List Vl} {a b : Vl} (hl : vs.length ≤ 3) (hv : ∀ v ∈ vs, v.Wf ∧ v.dep ≤ 2 ∧ v.size ≤ 100) (ha : a.Wf ∧ a.dep ≤ 2 ∧ a.size ≤ 100) (hb : b.Wf ∧ b.dep ≤ 2 ∧ b.size ≤ 100) : vcmp 3 (whl kind at' vs a) (whl kind at' vs b) = vcmp 2 a b := by
  obtain ⟨w1, d1, _⟩ := whl_ok (kind := kind) (at' := at') hl hv ha
  obtain ⟨w2, d2, _⟩ := whl_ok (kind := kind) (at' := at') hl hv hb
  unfold whl at *
  by_cases h0 : kind = 0
  · simp only [if_pos h0] at *
    exact mid_cmp w1 w2 d1 d2 rfl rfl (pre := (vs.take at').map fun v => ("", v)) (post := (vs.drop at').map fun v => ("", v)) (s := "") (by simp [Vl.named]) (by simp [Vl.named])
  · simp only [if_neg h0] at *
    by_cases h1 : kind = 1
    · simp only [if_pos h1] at *
      exact mid_cmp w1 w2 d1 d2 rfl rfl (recW_sort a hl).1 (recW_sort b hl).1
    · simp only [if_neg h1] at *
      exact mid_cmp w1 w2 d1 d2 rfl rfl (pre := []) (post := []) (s := "t") rfl rfl
end Fm
set_option Elab.async false
set_option linter.all false
set_option maxRecDepth 100000
namespace Fm
open PySem L2 PySem.Spec PyProof.Rows
theorem rw_loop {ν : Mu} {p : Vl} {vs : List Vl} (hl : vs.length ≤ 3) {x0 x1 x2 x4 : Option T} : ∀ (m j : Nat) (x6 : Option T), j + m = vs.length →
    ∃ y6, forL (gN 6) (sPut setD (eOp gIx (eVar 3) (eVar 6)) (eVar 5) (eOp gIx (eC (.str "acd")) (eVar 6))) ((List.range' j m).map fun (i : Nat) => T.d (.int i)) [x0, x1, x2, some (.d (.lst (vs.map Vl.D))), x4, some (.p ν.length), x6] (ν ++ [.dct (tk (recW p (vs.take j)))]) =
      some (.ok (.nx, [x0, x1, x2, some (.d (.lst (vs.map Vl.D))), x4, some (.p ν.length), y6]) (ν ++ [.dct (tk (recW p vs))]))
  | 0, j, x6, h => by
    rw [List.take_of_length_le (by omega)]
    exact ⟨x6, rfl⟩
  | m + 1, j, x6, h => by
    have hj : j < vs.length := by omega
    have hv : vs[j]? = some vs[j] := List.getElem?_eq_getElem hj
    generalize vs[j] = v at hv
    obtain ⟨s, hs, gs⟩ := acd_at (μ := ν ++ [.dct (tk (recW p (vs.take j)))]) j (by omega)
    obtain ⟨y6, ih⟩ := rw_loop (ν := ν) (p := p) hl (x0 := x0) (x1 := x1) (x2 := x2) (x4 := x4) m (j + 1) (some (.d (.int j))) (by omega)
    have hp := dct_put (ν := ν) (kvs := recW p (vs.take j)) (s := s) (v := v) (by have := recW_len (p := p) (vs := vs.take j); omega)
    rw [recW_put hs hv] at hp
    rw [List.range'_succ, List.map_cons]
    refine ⟨y6, for_step rfl (ρ2 := [x0, x1, x2, some (.d (.lst (vs.map Vl.D))), x4, some (.p ν.length), some (.d (.int j))]) (μ2 := ν ++ [.dct (tk (recW p (vs.take (j + 1))))]) ?_ ih⟩
    have e1 : eOp gIx (eVar 3) (eVar 6) [x0, x1, x2, some (.d (.lst (vs.map Vl.D))), x4, some (.p ν.length), some (.d (.int j))] (ν ++ [.dct (tk (recW p (vs.take j)))]) = some (.ok (.d v.D) _) := op_eq' (v_eq rfl) (v_eq rfl) (lst_at (f := Vl.D) hv)
    have e2 : eOp gIx (eC (.str "acd")) (eVar 6) [x0, x1, x2, some (.d (.lst (vs.map Vl.D))), x4, some (.p ν.length), some (.d (.int j))] (ν ++ [.dct (tk (recW p (vs.take j)))]) = some (.ok (.d (.str s)) _) := op_eq' (x := .d (.str "acd")) (μ1 := ν ++ [.dct (tk (recW p (vs.take j)))]) rfl (v_eq rfl) gs
    refine (mb_ok e1).trans ((mb_ok (v_eq rfl)).trans ((mb_ok e2).trans ?_))
    show (match setD _ _ (rd _ (.d (.str s))) _ with | some μ' => _ | none => _) = _
    simp only [rd, hp]
    rfl
theorem ret_p {e : EF} {ρ : Rho} {μ μ' : Mu} {y : T} {x : D} (h : e ρ μ = some (.ok y μ')) (h2 : rd μ' y = .d x) : sRet e ρ μ = some (.ok (.ret (.d x), ρ) μ') := (mb_ok h).trans (by rw [h2])
theorem fzd {μ : Mu} {n : Nat} {kvs : List (Str × Vl)} (h : μ[n]? = some (.dct (tk kvs))) : fzAtN μ n = some (μ.set n (.frz (Vl.rc kvs).D)) := by
  simp only [fzAtN, h, Cell.data, dKs_tk, Option.map_some]
  rfl
theorem whole_eq {μ : Mu} {b : Nat} {ds : List Int} {k : Nat} {kind : Int} {vs : List Vl} {p : Vl} (h : b < μ.length) (hl : vs.length ≤ 3) (hk : kind = 0 ∨ kind = 1 ∨ kind = 2) : ∃ at' : Nat, ∃ j, ∀ p : Vl, F__law_whole [.p b, .d (.int kind), .d p.D, .d (.lst (vs.map Vl.D))] (Bx μ b ds k) = some (.ok (.d (whl kind at' vs p).D) (Bx μ b ds j)) := by
  have hlen : gLen (Bx μ b ds k) [.d (.lst (vs.map Vl.D))] = some (.d (.int vs.length)) := by simp [gLen, lenT, lstOf]
  rcases hk with e | e | e <;> subst e
  · have d1 := draw_eq (ds := ds) (k := k) (m := (vs.length : Int) + 1) h (by omega)
    have lo := drw_lo (ds := ds) (k := k) (m := (vs.length : Int) + 1) (by omega)
    have hi := drw_hi (ds := ds) (k := k) (m := (vs.length : Int) + 1) (by omega)
    obtain ⟨a, ha⟩ := Int.eq_ofNat_of_zero_le lo
    rw [ha] at d1 hi
    have hle : a ≤ vs.length := by omega
    refine ⟨a, k + 1, fun p => fnB_to (seq_ret (if_t (μ' := Bx μ b ds k) (by simp) (seq_asg (y := .d (.int a)) (μ' := Bx μ b ds (k + 1)) (de_eq (an_cons (v_eq rfl) (an_cons (op_eq' (x := .d (.int vs.length)) (y := .d (.int 1)) (μ1 := Bx μ b ds k) (μ2 := Bx μ b ds k) (bi_eq (an_cons (v_eq rfl) an_nil) hlen) rfl rfl) an_nil)) d1) (ret_eq (x := (whl 0 a vs p).D) ?_)))) Bx_fin⟩
    have e1 : ∀ ρ : Rho, slotT ρ 3 = some (.d (.lst (vs.map Vl.D))) → slotT ρ 4 = some (.d (.int a)) → eFz (cSlL (eVar 3) oNone (oSome (eVar 4))) ρ (Bx μ b ds (k + 1)) = some (.ok (.d (.lst ((vs.take a).map Vl.D))) (Bx μ b ds (k + 1))) := fun ρ h3 h4 => by
      have := slL_eq (f := eVar 3) (l := oNone) (u := oSome (eVar 4)) (ρ := ρ) (μ := Bx μ b ds (k + 1)) (as := vs.map Vl.D) (lo := none) (hi := some (a : Int)) (v_eq h3) rfl (oSome_eq (v_eq h4)) rfl
      rwa [cut_to _ a (by simpa using hle), ← List.map_take] at this
    have e2 : ∀ ρ : Rho, slotT ρ 3 = some (.d (.lst (vs.map Vl.D))) → slotT ρ 4 = some (.d (.int a)) → eFz (cSlL (eVar 3) (oSome (eVar 4)) oNone) ρ (Bx μ b ds (k + 1)) = some (.ok (.d (.lst ((vs.drop a).map Vl.D))) (Bx μ b ds (k + 1))) := fun ρ h3 h4 => by
      have := slL_eq (f := eVar 3) (l := oSome (eVar 4)) (u := oNone) (ρ := ρ) (μ := Bx μ b ds (k + 1)) (as := vs.map Vl.D) (lo := some (a : Int)) (hi := none) (v_eq h3) (oSome_eq (v_eq h4)) rfl rfl
      rwa [cut_from _ a (by simpa using hle), ← List.map_drop] at this
    have SLb : ∀ n : Nat, n ≤ 100 → n ≤ SL := fun n hn => by show n ≤ 16777216; omega
    have l1 : (vs.take a).length ≤ 3 := by rw [List.length_take]; omega
    have l2 : (vs.drop a).length ≤ 3 := by rw [List.length_drop]; omega
    have e3 := cat_eq (ρ := [some (.p b), some (.d (.int 0)), some (.d p.D), some (.d (.lst (vs.map Vl.D))), some (.d (.int a)), none, none]) (e1 _ rfl rfl) (fl_eq (ds := [p.D]) (an_cons (v_eq (i := 2) rfl) an_nil) (SLb 1 (by omega))) rfl rfl (SLb _ (by simp; omega))
    have e4 := cat_eq e3 (e2 _ rfl rfl) rfl rfl (SLb _ (by simp; omega))
    have : (whl 0 a vs p).D = .lst ((vs.take a).map Vl.D ++ [p.D] ++ (vs.drop a).map Vl.D) := by
      unfold whl
      rw [if_pos rfl, Vl.D, Vl.Ds_map]
      simp
    rw [this]
    exact e4
  · refine ⟨0, k, fun p => ?_⟩
    obtain ⟨y6, hloop⟩ := rw_loop (ν := Bx μ b ds k) (p := p) hl (x0 := some (.p b)) (x1 := some (.d (.int 1))) (x2 := some (.d p.D)) (x4 := none) vs.length 0 none (by omega)
    rw [← List.range_eq_range'] at hloop
    have hn : eNew (cDisp (ppC (eC (.str "b")) (eVar 2) ppN)) [some (.p b), some (.d (.int 1)), some (.d p.D), some (.d (.lst (vs.map Vl.D))), none, none, none] (Bx μ b ds k) = some (.ok (.p (Bx μ b ds k).length) (Bx μ b ds k ++ [.dct (tk (recW p (vs.take 0)))])) := by
      simp [eNew, cDisp, ppC, ppN, keyed, keyOf, mergeT, putT, nwC, recW, tk]
    have hlen2 : gLen (Bx μ b ds k ++ [.dct (tk (recW p (vs.take 0)))]) [.d (.lst (vs.map Vl.D))] = some (.d (.int vs.length)) := by simp [gLen, lenT, lstOf]
    have hfor := for_eq (gf := gN 6) (irg_eq (j := (vs.length : Int)) (n := vs.length) rfl (by omega) (e := eB gLen (aCons (eVar 3) aNil)) (ρ := [some (.p b), some (.d (.int 1)), some (.d p.D), some (.d (.lst (vs.map Vl.D))), none, some (.p (Bx μ b ds k).length), none]) (bi_eq (an_cons (v_eq rfl) an_nil) hlen2)) hloop
    have fz := fzd (μ := Bx μ b ds k ++ [.dct (tk (recW p vs))]) (n := (Bx μ b ds k).length) app_get
    rw [app_set] at fz
    have hw : (whl 1 0 vs p).D = (Vl.rc (recW p vs)).D := by
      unfold whl
      rw [if_neg (by omega), if_pos rfl]
    rw [hw]
    have hr : rd (Bx μ b ds k ++ [.frz (Vl.rc (recW p vs)).D]) (.p (Bx μ b ds k).length) = .d (Vl.rc (recW p vs)).D := by simp [fzAt]
    exact fnB_own (z := [.frz (Vl.rc (recW p vs)).D]) (seq_pass (by simp) (seq_ret (if_t (μ' := Bx μ b ds k) (by simp) (seq_asg hn (seq_nx hfor ((sFz_eq rfl fz).trans (ret_p (y := .p (Bx μ b ds k).length) (v_eq rfl) hr)))))))
  · refine ⟨0, k, fun p => fnB_ret (seq_pass (by simp) (seq_pass (by simp) (ret_eq ?_)))⟩
    have hw : (whl 2 0 vs p).D = .tup [.str "t", p.D] := by
      unfold whl
      rw [if_neg (by omega), if_neg (by omega)]
      rfl
    rw [hw]
    exact tu_eq (ds := [.str "t", p.D]) (an_cons rfl (an_cons (v_eq rfl) an_nil)) (by show (2 : Nat) ≤ 16777216; decide)
end Fm
set_option Elab.async false
set_option linter.all false
set_option maxRecDepth 100000
namespace Fm
open PySem L2 PySem.Spec PyProof.Rows
theorem xNot (p : Vl) (vs : List Vl) (v : Vl) : kput (recW p vs) "x" v = recW p vs ++ [(("x" : Str), v)] := by
  unfold kput
  rw [if_neg]
  intro z
  obtain ⟨q, hq, e⟩ := List.any_eq_true.mp z
  have e := of_decide_eq_true e
  have h := (recW_mem q hq).1
  rw [e] at h
  revert h
  decide +kernel
theorem more_ok {p v : Vl} {vs : List Vl} (hl : vs.length ≤ 3) (hv : ∀ v ∈ vs, v.Wf ∧ v.dep ≤ 2 ∧ v.size ≤ 100) (hp : p.Wf ∧ p.dep ≤ 2 ∧ p.size ≤ 100) (h : v.Wf ∧ v.dep ≤ 2 ∧ v.size ≤ 100) :
    (Vl.rc (kput (recW p vs) "x" v)).Wf ∧ (Vl.rc (kput (recW p vs) "x" v)).dep ≤ 3 ∧ (Vl.rc (kput (recW p vs) "x" v)).size ≤ 1000 ∧ (Vl.rc (recW p vs)).size < (Vl.rc (kput (recW p vs) "x" v)).size := by
  rw [xNot]
  have hm : ∀ q ∈ recW p vs ++ [(("x" : Str), v)], q.1.length ≤ 1000 ∧ q.2.Wf ∧ q.2.dep ≤ 2 ∧ q.2.size ≤ 100 := by
    intro q hq
    rcases List.mem_append.mp hq with e | e
    · have h1 := recW_mem q e
      refine ⟨abcd_len _ h1.1, ?_⟩
      rcases h1.2 with e | e
      · rw [e]; exact hp
      · exact hv _ e
    · rw [List.mem_singleton.mp e]
      exact ⟨by show ("x" : Str).length ≤ 1000; decide +kernel, h⟩
  have hlen := recW_len (p := p) (vs := vs)
  have hlen2 : (recW p vs ++ [(("x" : Str), v)]).length ≤ 5 := by simp; omega
  have hn : ((recW p vs ++ [(("x" : Str), v)]).map (·.1)).Nodup := by
    rw [List.map_append]
    refine List.nodup_append.mpr ⟨(recW_sort p hl).2, by simp, ?_⟩
    intro a ha b hb e
    obtain ⟨q, hq, e1⟩ := List.mem_map.mp ha
    have h := (recW_mem q hq).1
    simp only [List.map_cons, List.map_nil, List.mem_singleton] at hb
    rw [e1, e, hb] at h
    revert h
    decide +kernel
  refine ⟨⟨by omega, hn, Vl.Wfk_all.mpr fun q hq => ⟨(hm q hq).1, (hm q hq).2.1⟩⟩, ?_, ?_, ?_⟩
  · have := depk_le.mpr fun q hq => (hm q hq).2.2.1
    rw [Vl.dep]; omega
  · have h1 := sum_le (f := fun q : Str × Vl => q.2.size) (B := 100) fun q hq => (hm q hq).2.2.2
    have h2 : (recW p vs ++ [(("x" : Str), v)]).length * 100 ≤ 5 * 100 := Nat.mul_le_mul_right _ hlen2
    rw [Vl.size, Vl.sizek_sum]; omega
  · have := size_pos h.1
    rw [Vl.size, Vl.size, Vl.sizek_sum, Vl.sizek_sum]
    simp
    omega
theorem longer_ok {xs : List Vl} {v : Vl} (hx : (Vl.lst xs).Wf ∧ (Vl.lst xs).dep ≤ 3 ∧ (Vl.lst xs).size ≤ 1000) (hl : xs.length ≤ 4) (h : v.Wf ∧ v.dep ≤ 2 ∧ v.size ≤ 100) : (Vl.lst (xs ++ [v])).Wf ∧ (Vl.lst (xs ++ [v])).dep ≤ 3 ∧ (Vl.lst (xs ++ [v])).size ≤ 2000 ∧ (Vl.lst xs).size < (Vl.lst (xs ++ [v])).size := by
  obtain ⟨h1, h2, h3⟩ := hx
  rw [Vl.dep] at h2
  rw [Vl.size, Vl.sizes_sum] at h3
  have h4 := deps_le.mp (show Vl.deps xs ≤ 2 by omega)
  refine ⟨⟨by simp; omega, Vl.Wfs_all.mpr fun w hw => ?_⟩, ?_, ?_, ?_⟩
  · rcases List.mem_append.mp hw with e | e
    · exact Vl.Wfs_all.mp h1.2 w e
    · rw [List.mem_singleton.mp e]; exact h.1
  · have := (deps_le (xs := xs ++ [v]) (n := 2)).mpr fun w hw => by
      rcases List.mem_append.mp hw with e | e
      · exact h4 w e
      · rw [List.mem_singleton.mp e]; exact h.2.1
    rw [Vl.dep]; omega
  · rw [Vl.size, Vl.sizes_sum]; simp; omega
  · have := size_pos h.1
    rw [Vl.size, Vl.size, Vl.sizes_sum, Vl.sizes_sum]
    simp
    omega
noncomputable def k3A : SF := sIf (bE (eOp (gEqF true) (eDef (F_compare_values 4) (aCons (eVar 8) (aCons (eVar 9) aNil))) (eDef (F__law_before 3) (aCons (eVar 3) (aCons (eVar 4) aNil))))) (sRet (eC (.bl false))) sNx
noncomputable def k3B : SF := sIf (bAnd (bE (eOp (gEqF false) (eVar 6) (eC (.int 0)))) (bE (eOp (gEqF true) (eDef (F_compare_values 4) (aCons (eVar 8) (aCons (eFz (cCat (eVar 8) (eFz (cLst (aCons (eVar 3) aNil))))) aNil))) (eNeg (eC (.int 1)))))) (sRet (eC (.bl false))) sNx
noncomputable def k3C : SF := sIf (bE (eOp (gEqF false) (eVar 6) (eC (.int 1)))) (sSeq (sAsg (eNew (cB gDict (aCons (eVar 8) aNil))) (gN 10))
    (sSeq (sPut setD (eVar 4) (eVar 10) (eC (.str "x")))
    (sFz 10 (sIf (bE (eOp (gEqF true) (eDef (F_compare_values 4) (aCons (eVar 8) (aCons (eRd (eVar 10)) aNil))) (eNeg (eC (.int 1))))) (sRet (eC (.bl false))) sNx)))) sNx
theorem neg1 {ρ : Rho} {μ : Mu} : eNeg (eC (.int 1)) ρ μ = some (.ok (.d (.int (-1))) μ) := by simp [eNeg, negT]
theorem k3_fin {μ : Mu} {ds : List Int} {k : Nat} (hb : 0 < μ.length) {v1 v2 : Vl} {vs : List Vl} {kind : Int} {a : Nat} (hl : vs.length ≤ 3) (hv : ∀ v ∈ vs, v.Wf ∧ v.dep ≤ 2 ∧ v.size ≤ 100) (h1 : v1.Wf ∧ v1.dep ≤ 2 ∧ v1.size ≤ 100) (h2 : v2.Wf ∧ v2.dep ≤ 2 ∧ v2.size ≤ 100) {x0 x2 x5 x7 x10 x11 : Option T} :
    ∃ y10 ν, 0 < ν.length ∧ sSeq k3A (sSeq k3B k3C) [x0, some (.p 0), x2, some (.d v1.D), some (.d v2.D), x5, some (.d (.int kind)), x7, some (.d (whl kind a vs v1).D), some (.d (whl kind a vs v2).D), x10, x11] (Bx μ 0 ds k) =
      some (.ok (.nx, [x0, some (.p 0), x2, some (.d v1.D), some (.d v2.D), x5, some (.d (.int kind)), x7, some (.d (whl kind a vs v1).D), some (.d (whl kind a vs v2).D), y10, x11]) (Bx ν 0 ds k)) := by
  have w1 := whl_ok (kind := kind) (at' := a) hl hv h1
  have w2 := whl_ok (kind := kind) (at' := a) hl hv h2
  have hc := whl_cmp (kind := kind) (at' := a) hl hv h1 h2
  have e1 := cv_eq (Bx μ 0 ds k) 3 w1.1 w2.1 (by omega) (by omega) w1.2.1 w2.2.1
  have e2 := lb_eq (Bx μ 0 ds k) 2 h1.1 h2.1 (Nat.le_refl _) h1.2.1 h2.2.1
  rw [hc] at e1
  have sA : ∀ y10, k3A [x0, some (.p 0), x2, some (.d v1.D), some (.d v2.D), x5, some (.d (.int kind)), x7, some (.d (whl kind a vs v1).D), some (.d (whl kind a vs v2).D), y10, x11] (Bx μ 0 ds k) = some (.ok (.nx, _) (Bx μ 0 ds k)) := fun y10 =>
    if_f (be_eq (op_eq' (de_eq (an_cons (v_eq rfl) (an_cons (v_eq rfl) an_nil)) e1) (de_eq (an_cons (v_eq rfl) (an_cons (v_eq rfl) an_nil)) e2) (by simp))) rfl
  by_cases k0 : kind = 0
  · subst k0
    obtain ⟨xs, hxs, hlen⟩ : ∃ xs, whl 0 a vs v1 = .lst xs ∧ xs.length ≤ 4 := ⟨_, by unfold whl; rw [if_pos rfl], by simp; omega⟩
    rw [hxs] at w1 sA ⊢
    have lo := longer_ok w1 hlen h1
    have e3 := cv_eq (Bx μ 0 ds k) 3 w1.1 lo.1 (by omega) (by omega) w1.2.1 lo.2.1
    rw [size_less lo.2.2.2] at e3
    have hD : (Vl.lst (xs ++ [v1])).D = .lst (xs.map Vl.D ++ [v1.D]) := by rw [Vl.D, Vl.Ds_map]; simp
    have hD1 : (Vl.lst xs).D = .lst (xs.map Vl.D) := by rw [Vl.D, Vl.Ds_map]
    refine ⟨x10, μ, hb, seq_nx (sA x10) (seq_nx (if_f (μ' := Bx μ 0 ds k) (band_t (μ' := Bx μ 0 ds k) (by simp) (be_eq (op_eq' (de_eq (an_cons (v_eq rfl) (an_cons (x := .d (Vl.lst (xs ++ [v1])).D) (μ1 := Bx μ 0 ds k) ?_ an_nil)) e3) neg1 (by simp)))) rfl) (if_f (μ' := Bx μ 0 ds k) (by simp) rfl))⟩
    rw [hD]
    exact cat_eq (x := .d (Vl.lst xs).D) (y := .d (.lst [v1.D])) (μ1 := Bx μ 0 ds k) (v_eq rfl) (fl_eq (ds := [v1.D]) (an_cons (v_eq rfl) an_nil) (by show (1 : Nat) ≤ 16777216; decide)) (by rw [hD1]; rfl) rfl (by show (xs.map Vl.D).length + 1 ≤ 16777216; rw [List.length_map]; omega)
  · by_cases k1 : kind = 1
    · subst k1
      have hw : whl 1 a vs v1 = .rc (recW v1 vs) := by unfold whl; rw [if_neg (by omega), if_pos rfl]
      rw [hw] at w1 sA ⊢
      have lo := more_ok hl hv h1 h2
      let c0 : Cell := .dct (tk (recW v1 vs))
      let c1 : Cell := .dct (tk (kput (recW v1 vs) "x" v2))
      let c2 : Cell := .frz (Vl.rc (kput (recW v1 vs) "x" v2)).D
      have hg : ∀ ρ : Rho, slotT ρ 8 = some (.d (Vl.rc (recW v1 vs)).D) → eNew (cB gDict (aCons (eVar 8) aNil)) ρ (Bx μ 0 ds k) = some (.ok (.p (Bx μ 0 ds k).length) (Bx μ 0 ds k ++ [c0])) := fun ρ h8 => by
        have : cB gDict (aCons (eVar 8) aNil) ρ (Bx μ 0 ds k) = some (.ok c0 (Bx μ 0 ds k)) := by
          refine (mb_ok (an_cons (v_eq h8) an_nil)).trans ?_
          have hdk : (Vl.Dk (recW v1 vs)).map (fun p => (p.1, T.d p.2)) = tk (recW v1 vs) := by
            rw [Vl.Dk_map, List.map_map]
            rfl
          simp only [ofG, gDict, dctOf, List.map_cons, List.map_nil, rd, Vl.D, hdk, Option.map_some, mof]
          rfl
        exact (mb_ok this).trans rfl
      have hp := dct_put (ν := Bx μ 0 ds k) (kvs := recW v1 vs) (s := "x") (v := v2) (by have := recW_len (p := v1) (vs := vs); omega)
      have fz := fzd (μ := Bx μ 0 ds k ++ [c1]) (n := (Bx μ 0 ds k).length) app_get
      rw [app_set] at fz
      have e3 := cv_eq (Bx μ 0 ds k ++ [c2]) 3 w1.1 lo.1 (by omega) (by omega) w1.2.1 lo.2.1
      rw [size_less lo.2.2.2] at e3
      have hB : Bx μ 0 ds k ++ [c2] = Bx (μ ++ [c2]) 0 ds k := Bx_app hb
      have hrd : eRd (eVar 10) [x0, some (.p 0), x2, some (.d v1.D), some (.d v2.D), x5, some (.d (.int 1)), x7, some (.d (Vl.rc (recW v1 vs)).D), some (.d (whl 1 a vs v2).D), some (.p (Bx μ 0 ds k).length), x11] (Bx μ 0 ds k ++ [c2]) = some (.ok (.d (Vl.rc (kput (recW v1 vs) "x" v2)).D) (Bx μ 0 ds k ++ [c2])) := by
        refine (mb_ok (v_eq (x := .p (Bx μ 0 ds k).length) rfl)).trans ?_
        simp [fzAt, c2]
      refine ⟨some (.p (Bx μ 0 ds k).length), μ ++ [c2], by simp, ?_⟩
      rw [← hB]
      refine seq_nx (sA x10) (seq_nx (if_f (μ' := Bx μ 0 ds k) (band_f (μ' := Bx μ 0 ds k) (by simp)) rfl) (if_t (μ' := Bx μ 0 ds k) (by simp) (seq_asg (hg _ rfl) (seq_nx (ρ' := [x0, some (.p 0), x2, some (.d v1.D), some (.d v2.D), x5, some (.d (.int 1)), x7, some (.d (Vl.rc (recW v1 vs)).D), some (.d (whl 1 a vs v2).D), some (.p (Bx μ 0 ds k).length), x11]) (μ' := Bx μ 0 ds k ++ [c1]) ?_ ((sFz_eq rfl fz).trans (if_f (μ' := Bx μ 0 ds k ++ [c2]) (be_eq (op_eq' (μ1 := Bx μ 0 ds k ++ [c2]) (de_eq (μ1 := Bx μ 0 ds k ++ [c2]) (an_cons (v_eq rfl) (an_cons hrd an_nil)) e3) neg1 (by simp))) rfl))))))
      refine (mb_ok (v_eq (x := .d v2.D) rfl)).trans ((mb_ok (v_eq (x := .p (Bx μ 0 ds k).length) rfl)).trans ((mb_ok (a := .d (.str "x")) (μ' := Bx μ 0 ds k ++ [c0]) rfl).trans ?_))
      show (match setD _ _ (rd _ (.d (.str "x"))) _ with | some μ' => _ | none => _) = _
      simp only [rd]
      rw [hp]
      rfl
    · refine ⟨x10, μ, hb, seq_nx (sA x10) (seq_nx (if_f (μ' := Bx μ 0 ds k) (band_f (μ' := Bx μ 0 ds k) (by simp [k0])) rfl) (if_f (μ' := Bx μ 0 ds k) (by simp [k1]) rfl))⟩
theorem gn_100 {n : Nat} (hn : n ≤ 2) {v : Vl} (h : Gn n v) : v.Wf ∧ v.dep ≤ 2 ∧ v.size ≤ 100 := by
  refine ⟨h.wf, Nat.le_trans h.dep hn, ?_⟩
  have h1 := h.size
  have : n = 0 ∨ n = 1 ∨ n = 2 := by omega
  rcases this with e | e | e <;> subst e
  · have : bnd 0 = 4 := rfl
    omega
  · have : bnd 1 = 13 := rfl
    omega
  · have : bnd 2 = 40 := rfl
    omega
theorem k03_body {μ : Mu} {ds : List Int} {k : Nat} (hb : 0 < μ.length) {f : SF} (hf : f = (sSeq (sAsg (eDef (F__law_value 3) (aCons (eVar 1) (aCons (eC (.int 2)) aNil))) (gN 3))
    (sSeq (sAsg (eDef (F__law_value 3) (aCons (eVar 1) (aCons (eC (.int 2)) aNil))) (gN 4))
    (sSeq (sAsg (eFz (cComp [11] (iRg rng1 (aCons (eDef F__law_draw (aCons (eVar 1) (aCons (eC (.int 4)) aNil))) aNil)) (gN 11) bTrue (eDef (F__law_value 3) (aCons (eVar 1) (aCons (eC (.int 1)) aNil))))) (gN 5))
    (sSeq (sAsg (eDef F__law_draw (aCons (eVar 1) (aCons (eC (.int 3)) aNil))) (gN 6))
    (sSeq (sAsg (eOp gIx (eVar 1) (eC (.int 1))) (gN 7))
    (sSeq (sAsg (eDef F__law_whole (aCons (eVar 1) (aCons (eVar 6) (aCons (eVar 3) (aCons (eVar 5) aNil))))) (gN 8))
    (sSeq (sPut setL (eVar 7) (eVar 1) (eC (.int 1)))
    (sSeq (sAsg (eDef F__law_whole (aCons (eVar 1) (aCons (eVar 6) (aCons (eVar 4) (aCons (eVar 5) aNil))))) (gN 9))
    (sSeq k3A (sSeq k3B k3C))))))))))) {x0 x2 x3 x4 x5 x6 x7 x8 x9 x10 x11 : Option T} :
    ∃ y3 y4 y5 y6 y7 y8 y9 y10 y11 ν j, 0 < ν.length ∧ f [x0, some (.p 0), x2, x3, x4, x5, x6, x7, x8, x9, x10, x11] (Bx μ 0 ds k) = some (.ok (.nx, [x0, some (.p 0), x2, y3, y4, y5, y6, y7, y8, y9, y10, y11]) (Bx ν 0 ds j)) := by
  obtain ⟨v1, k1, g1, e1⟩ := value_ex2 (b := 0) (ds := ds) 2 2 (Nat.le_refl _) (μ := μ) k hb
  obtain ⟨v2, k2, g2, e2⟩ := value_ex2 (b := 0) (ds := ds) 2 2 (Nat.le_refl _) (μ := μ) k1 hb
  have d1 := draw_eq (ds := ds) (k := k2) (m := 4) hb (by omega)
  have lo1 := drw_lo (ds := ds) (k := k2) (m := 4) (by omega)
  have hi1 := drw_hi (ds := ds) (k := k2) (m := 4) (by omega)
  obtain ⟨n, hn⟩ := Int.eq_ofNat_of_zero_le lo1
  rw [hn] at d1 hi1
  obtain ⟨vs, k3, hvl, hvs, hcomp⟩ := comp_ex (μ := μ) (b := 0) (ds := ds) (i := 11) (el := eDef (F__law_value 3) (aCons (eVar 1) (aCons (eC (.int 1)) aNil))) (ρ := [x0, some (.p 0), x2, some (.d v1.D), some (.d v2.D), x5, x6, x7, x8, x9, x10, none]) (P := Gn 1) (fun x k => by
    obtain ⟨v, j, q1, q2⟩ := value_ex2 (b := 0) (ds := ds) 2 1 (by omega) (μ := μ) k hb
    exact ⟨v, j, q1, de_eq (an_cons (v_eq rfl) (an_cons rfl an_nil)) q2⟩) ((List.range n).map fun (k : Nat) => T.d (.int k)) [] (k2 + 1)
  rw [List.length_map, List.length_range] at hvl
  have hcc : cComp [11] (iRg rng1 (aCons (eDef F__law_draw (aCons (eVar 1) (aCons (eC (.int 4)) aNil))) aNil)) (gN 11) bTrue (eDef (F__law_value 3) (aCons (eVar 1) (aCons (eC (.int 1)) aNil))) [x0, some (.p 0), x2, some (.d v1.D), some (.d v2.D), x5, x6, x7, x8, x9, x10, x11] (Bx μ 0 ds k2) = some (.ok (.lst ((vs.map Vl.D).map T.d)) (Bx μ 0 ds k3)) := by
    refine (mb_ok (irg_eq (j := (n : Int)) (n := n) rfl (by omega) (μ' := Bx μ 0 ds (k2 + 1)) (de_eq (an_cons (v_eq rfl) (an_cons rfl an_nil)) d1))).trans ?_
    rw [if_pos (by show _ ≤ 16777216; simp; omega), List.map_map]
    exact hcomp
  have e3 := (mb_ok (g := fzC) hcc).trans (fz_of _)
  have d2 := draw_eq (ds := ds) (k := k3) (m := 3) hb (by omega)
  have lo2 := drw_lo (ds := ds) (k := k3) (m := 3) (by omega)
  have hi2 := drw_hi (ds := ds) (k := k3) (m := 3) (by omega)
  generalize drw ds k3 3 = kind at d2 lo2 hi2
  have b1 := Bx_at1 (ds := ds) (k := k3 + 1) hb
  have bf := Bx_fz (ds := ds) (k := k3 + 1) hb
  obtain ⟨a, k5, hw⟩ := whole_eq (ds := ds) (k := k3 + 1) (kind := kind) (vs := vs) (p := v1) hb (by omega) (by omega)
  have bp := Bx_put (ds := ds) (k := k5) (j := k3 + 1) hb
  obtain ⟨y10, ν, hν, hfin⟩ := k3_fin (ds := ds) (k := k5) hb (v1 := v1) (v2 := v2) (vs := vs) (kind := kind) (a := a) (by omega) (fun v hv => gn_100 (by omega) (hvs v hv)) (gn_100 (by omega) g1) (gn_100 (by omega) g2) (x0 := x0) (x2 := x2) (x5 := some (.d (.lst (vs.map Vl.D)))) (x7 := some (.d (.int ((k3 + 1 : Nat) : Int)))) (x10 := x10) (x11 := x11)
  rw [hf]
  refine ⟨_, _, _, _, _, _, _, _, _, ν, k5, hν, seq_asg (de_eq (an_cons (v_eq rfl) (an_cons rfl an_nil)) e1) (seq_asg (de_eq (an_cons (v_eq rfl) (an_cons rfl an_nil)) e2) (seq_asg e3 (seq_asg (de_eq (an_cons (v_eq rfl) (an_cons rfl an_nil)) d2) (seq_asg (y := .d (.int ((k3 + 1 : Nat) : Int))) (μ' := Bx μ 0 ds (k3 + 1)) (op_eq' (x := .p 0) (μ1 := Bx μ 0 ds (k3 + 1)) (v_eq rfl) rfl (by simpa [bf] using b1)) (seq_asg (de_eq (an_cons (v_eq rfl) (an_cons (v_eq rfl) (an_cons (v_eq rfl) (an_cons (v_eq rfl) an_nil)))) (hw v1)) (seq_nx (ρ' := [x0, some (.p 0), x2, some (.d v1.D), some (.d v2.D), some (.d (.lst (vs.map Vl.D))), some (.d (.int kind)), some (.d (.int ((k3 + 1 : Nat) : Int))), some (.d (whl kind a vs v1).D), x9, x10, x11]) (μ' := Bx μ 0 ds (k3 + 1)) ?_ (seq_asg (de_eq (an_cons (v_eq rfl) (an_cons (v_eq rfl) (an_cons (v_eq rfl) (an_cons (v_eq rfl) an_nil)))) (hw v2)) hfin)))))))⟩
  refine (mb_ok (v_eq (x := .d (.int ((k3 + 1 : Nat) : Int))) rfl)).trans ((mb_ok (v_eq (x := .p 0) rfl)).trans ((mb_ok (a := .d (.int 1)) (μ' := Bx μ 0 ds k5) rfl).trans ?_))
  show (match setL _ _ (rd _ (.d (.int 1))) _ with | some μ' => _ | none => _) = _
  simp only [rd]
  rw [bp]
  rfl
theorem law_k03_true (ns : List Int) (_ : ns.length ≤ 63) : ∃ μ, F_law_k03 [.d (.kl ns)] [] = some (.ok (.d (.bl true)) μ) := by
  obtain ⟨ds, hd⟩ := digits_ex ns []
  have hb : 0 < ([bx ds 0] : Mu).length := by simp
  generalize hμ : ([bx ds 0] : Mu) = μ0 at hb
  have hB : μ0 = Bx μ0 0 ds 0 := by rw [← hμ]; rfl
  have h1 : eNew (cLst (aCons (eDef F__law_digits (aCons (eVar 0) (aCons (eC (.int 0)) (aCons (eC (.int 63)) aNil)))) (aCons (eC (.int 0)) aNil))) [some (.d (.kl ns)), none, none, none, none, none, none, none, none, none, none, none] [] = some (.ok (.p 0) (Bx μ0 0 ds 0)) := by
    rw [← hB, ← hμ]
    simp [eNew, cLst, hd, SL, nwC, bx]
  let Inv : Rho → Mu → Prop := fun ρ μ => ∃ x2 x3 x4 x5 x6 x7 x8 x9 x10 x11 ν k, 0 < ν.length ∧ ρ = [some (.d (.kl ns)), some (.p 0), x2, x3, x4, x5, x6, x7, x8, x9, x10, x11] ∧ μ = Bx ν 0 ds k
  obtain ⟨ρ', μ', hl, x2, x3, x4, x5, x6, x7, x8, x9, x10, x11, ν, k, hν, hρ, hm⟩ := forL_ex (Inv := Inv) (g := gN 2) (b := _) (xs := (List.range 3).map fun (k : Nat) => T.d (.int k)) (ρ := [some (.d (.kl ns)), some (.p 0), none, none, none, none, none, none, none, none, none, none]) (μ := Bx μ0 0 ds 0) (by
    rintro x hx ρ μ ⟨x2, x3, x4, x5, x6, x7, x8, x9, x10, x11, ν, k, hν, rfl, rfl⟩
    obtain ⟨y3, y4, y5, y6, y7, y8, y9, y10, y11, ν', j, hν', h⟩ := k03_body (μ := ν) (ds := ds) (k := k) hν rfl (x0 := some (.d (.kl ns))) (x2 := some x) (x3 := x3) (x4 := x4) (x5 := x5) (x6 := x6) (x7 := x7) (x8 := x8) (x9 := x9) (x10 := x10) (x11 := x11)
    exact ⟨_, _, (mb_ok (show gN 2 x [some (.d (.kl ns)), some (.p 0), x2, x3, x4, x5, x6, x7, x8, x9, x10, x11] (Bx ν 0 ds k) = some (.ok [some (.d (.kl ns)), some (.p 0), some x, x3, x4, x5, x6, x7, x8, x9, x10, x11] (Bx ν 0 ds k)) from rfl)).trans h, _, _, _, _, _, _, _, _, _, _, _, _, hν', rfl, rfl⟩) ⟨_, _, _, _, _, _, _, _, _, _, _, _, hb, rfl, rfl⟩
  subst hρ hm
  refine fnB_any (seq_asg h1 (seq_nx (for_eq (irg_eq (j := 3) (n := 3) rfl (by omega) (μ' := Bx μ0 0 ds 0) (by rfl)) hl) (ret_eq rfl)))
end Fm
set_option Elab.async false
set_option linter.all false
set_option maxRecDepth 100000
namespace Fm
open PySem L2 PySem.Spec PyProof.Rows
section
variable {P : Program} {w : World} {K : PySem.W.Frag} {mg : Str → Option Value} {base : Heap}
def top (i : Nat) : Stmt := PySem.Challenge.pw_formatfit_k03_lesser_parts_make_less.main.body.getD i (.Pass ⟨0, 0, 0, 0⟩)
/-- what the names of the module and the built-in ones hold -/
structure Txt (mg : Str → Option Value) : Prop where
  c_CHOICE : ∃ t, mg "CHOICE" = some (.int 4 t)
  c_INTEGER : ∃ t, mg "INTEGER" = some (.int 0 t)
  c_LIST : ∃ t, mg "LIST" = some (.int 2 t)
  c_RECORD : ∃ t, mg "RECORD" = some (.int 3 t)
  c_TEXT : ∃ t, mg "TEXT" = some (.int 1 t)
  b_abs : mg "abs" = none
  b_dict : mg "dict" = none
  b_int : mg "int" = none
  b_isinstance : mg "isinstance" = none
  b_len : mg "len" = none
  b_list : mg "list" = none
  b_min : mg "min" = none
  b_range : mg "range" = none
  b_sorted : mg "sorted" = none
  b_str : mg "str" = none
  b_zip : mg "zip" = none
/-! ### kind_of -/
abbrev s_kind_of : Stmt := top 6
theorem sc_kind_of : FnScope ["value"] ["value"] (defScope s_kind_of) := ⟨rfl, rfl, rfl, by decide +kernel, rfl, by decide +kernel, by decide +kernel⟩
theorem ok_kind_of {k : Nat}  (T : Txt mg) (D : Dx K mg "kind_of" s_kind_of ["value"])  : Fn P w K mg base (k + 1) "kind_of" 1 (fnB 1 (b_kind_of )) :=
  okD D sc_kind_of fun f cdv A outer s H E B => ⟨_, (bl_cons (st_if (pb_truth (pd_isi (pd_var 0) T.b_isinstance T.b_int (by decide +kernel))) (bl_one (st_ret (pd_gi T.c_INTEGER))) bl_nil)
    (bl_cons (st_if (pb_truth (pd_isi (pd_var 0) T.b_isinstance T.b_str (by decide +kernel))) (bl_one (st_ret (pd_gi T.c_TEXT))) bl_nil)
    (bl_cons (st_if (pb_truth (pd_isi (pd_var 0) T.b_isinstance T.b_list (by decide +kernel))) (bl_one (st_ret (pd_gi T.c_LIST))) bl_nil)
    (bl_cons (st_if (pb_truth (pd_isi (pd_var 0) T.b_isinstance T.b_dict (by decide +kernel))) (bl_one (st_ret (pd_gi T.c_RECORD))) bl_nil)
    (bl_one (st_ret (pd_gi T.c_CHOICE)))))))⟩
/-! ### sorted_fields -/
abbrev s_sorted_fields : Stmt := top 7
theorem sc_sorted_fields : FnScope ["record", "name"] ["record"] (defScope s_sorted_fields) := ⟨rfl, rfl, rfl, by decide +kernel, rfl, by decide +kernel, by decide +kernel⟩
theorem ok_sorted_fields {k : Nat}  (T : Txt mg) (D : Dx K mg "sorted_fields" s_sorted_fields ["record"])  : Fn P w K mg base (k + 1) "sorted_fields" 1 (fnB 2 (b_sorted_fields )) :=
  okD D sc_sorted_fields fun f cdv A outer s H E B => ⟨_, (bl_one (st_ret (pd_fz (pc_lc (plc (own := [("name", 1)]) (N := ["record", "name"]) (sc := defScope s_sorted_fields) B.toBd sc_sorted_fields.nd (it_lst (pd_fz (pc_B bn_sorted T.b_sorted (by decide +kernel) (pl_cons (pd_var 0) pl_nil)))) (by decide +kernel) (fun _ _ _ _ _ => (tg_n 1 sc_sorted_fields.nd)) (fun _ _ _ _ _ Bx => pts0) (fun _ _ _ _ _ Bx => (pd_tup (pl_cons (pd_var 1) (pl_cons (pd_ix Bx.hu (pd_var 0) (pd_var 1)) pl_nil)))))))))⟩
/-! ### _named_parts -/
abbrev s__named_parts : Stmt := top 8
theorem sc__named_parts : FnScope ["value", "kind", "part"] ["value"] (defScope s__named_parts) := ⟨rfl, rfl, rfl, by decide +kernel, rfl, by decide +kernel, by decide +kernel⟩
theorem ok__named_parts {k : Nat} {f_kind_of f_sorted_fields : FN} (T : Txt mg) (D : Dx K mg "_named_parts" s__named_parts ["value"]) (h_kind_of : Fn P w K mg base k "kind_of" 1 f_kind_of) (h_sorted_fields : Fn P w K mg base k "sorted_fields" 1 f_sorted_fields) : Fn P w K mg base (k + 1) "_named_parts" 1 (fnB 3 (b__named_parts f_kind_of f_sorted_fields)) :=
  okD D sc__named_parts fun f cdv A outer s H E B => ⟨_, (bl_cons (st_asg (pd_def B.toBd h_kind_of (pl_cons (pd_var 0) pl_nil) (alen_cons alen_nil)) (tg_n 1 sc__named_parts.nd))
    (bl_cons (st_if (pb_cmp od_eqF (pd_var 1) (pd_gi T.c_LIST)) (bl_one (st_ret (pd_fz (pc_lc (plc (own := [("part", 2)]) (N := ["value", "kind", "part"]) (sc := defScope s__named_parts) B.toBd sc__named_parts.nd (it_lst (pd_var 0)) (by decide +kernel) (fun _ _ _ _ _ => (tg_n 2 sc__named_parts.nd)) (fun _ _ _ _ _ Bx => pts0) (fun _ _ _ _ _ Bx => (pd_tup (pl_cons pd_str (pl_cons (pd_var 2) pl_nil))))))))) bl_nil)
    (bl_cons (st_if (pb_cmp od_eqF (pd_var 1) (pd_gi T.c_RECORD)) (bl_one (st_ret (pd_def B.toBd h_sorted_fields (pl_cons (pd_var 0) pl_nil) (alen_cons alen_nil)))) bl_nil)
    (bl_cons (st_if (pb_cmp od_eqF (pd_var 1) (pd_gi T.c_CHOICE)) (bl_one (st_ret (pd_fz (pc_lst (pl_cons (pd_var 0) pl_nil))))) bl_nil)
    (bl_one (st_ret (pd_fz (pc_lst pl_nil))))))))⟩
/-! ### parts_of -/
abbrev s_parts_of : Stmt := top 9
theorem sc_parts_of : FnScope ["value", "_", "part"] ["value"] (defScope s_parts_of) := ⟨rfl, rfl, rfl, by decide +kernel, rfl, by decide +kernel, by decide +kernel⟩
theorem ok_parts_of {k : Nat} {f__named_parts : FN} (T : Txt mg) (D : Dx K mg "parts_of" s_parts_of ["value"]) (h__named_parts : Fn P w K mg base k "_named_parts" 1 f__named_parts) : Fn P w K mg base (k + 1) "parts_of" 1 (fnB 3 (b_parts_of f__named_parts)) :=
  okD D sc_parts_of fun f cdv A outer s H E B => ⟨_, (bl_one (st_ret (pd_fz (pc_lc (plc (own := [("_", 1), ("part", 2)]) (N := ["value", "_", "part"]) (sc := defScope s_parts_of) B.toBd sc_parts_of.nd (it_lst (pd_def B.toBd h__named_parts (pl_cons (pd_var 0) pl_nil) (alen_cons alen_nil))) (by decide +kernel) (fun _ _ _ _ _ => (tg_t (gn_cons 1 (gn_cons 2 gn_nil sc_parts_of.nd) sc_parts_of.nd))) (fun _ _ _ _ _ Bx => pts0) (fun _ _ _ _ _ Bx => (pd_var 2)))))))⟩
/-! ### _own_size -/
abbrev s__own_size : Stmt := top 10
theorem sc__own_size : FnScope ["value"] ["value"] (defScope s__own_size) := ⟨rfl, rfl, rfl, by decide +kernel, rfl, by decide +kernel, by decide +kernel⟩
theorem ok__own_size {k : Nat}  (T : Txt mg) (D : Dx K mg "_own_size" s__own_size ["value"])  : Fn P w K mg base (k + 1) "_own_size" 1 (fnB 1 (b__own_size )) :=
  okD D sc__own_size fun f cdv A outer s H E B => ⟨_, (bl_one (st_ret (pd_if (pb_truth (pd_isi (pd_var 0) T.b_isinstance T.b_str (by decide +kernel))) (pd_bin od_add pd_int (pd_B bi_len T.b_len (by decide +kernel) (pl_cons (pd_var 0) pl_nil))) pd_int)))⟩
/-! ### size_of -/
abbrev s_size_of : Stmt := top 11
theorem sc_size_of : FnScope ["value", "size", "waiting", "part"] ["value"] (defScope s_size_of) := ⟨rfl, rfl, rfl, by decide +kernel, rfl, by decide +kernel, by decide +kernel⟩
theorem ok_size_of {k : Nat} {f__own_size f_parts_of : FN} (T : Txt mg) (D : Dx K mg "size_of" s_size_of ["value"]) (h__own_size : Fn P w K mg base k "_own_size" 1 f__own_size) (h_parts_of : Fn P w K mg base k "parts_of" 1 f_parts_of) : Fn P w K mg base (k + 1) "size_of" 1 (fnB 4 (b_size_of f__own_size f_parts_of)) :=
  okD D sc_size_of fun f cdv A outer s H E B => ⟨_, (bl_cons (st_asg pd_int (tg_n 1 sc_size_of.nd))
    (bl_cons (st_asg (pd_new (pc_lst (pl_cons (pd_var 0) pl_nil))) (tg_n 2 sc_size_of.nd))
    (bl_cons (st_while B.own (pb_truth (pd_var 2)) (bl_cons (st_asg (pd_BM0 mi_pop (pd_var 2)) (tg_n 3 sc_size_of.nd))
    (bl_cons (st_aug 1 ipd_add (pd_def B.toBd h__own_size (pl_cons (pd_var 3) pl_nil) (alen_cons alen_nil)) sc_size_of.nd)
    (bl_one (st_expr (pd_BM mi_extend (pd_var 2) (pl_cons (pd_def B.toBd h_parts_of (pl_cons (pd_var 3) pl_nil) (alen_cons alen_nil)) pl_nil)))))))
    (bl_one (st_ret (pd_var 1))))))⟩
/-! ### _compare -/
abbrev s__compare : Stmt := top 12
theorem sc__compare : FnScope ["first", "second"] ["first", "second"] (defScope s__compare) := ⟨rfl, rfl, rfl, by decide +kernel, rfl, by decide +kernel, by decide +kernel⟩
theorem ok__compare {k : Nat}  (T : Txt mg) (D : Dx K mg "_compare" s__compare ["first", "second"])  : Fn P w K mg base (k + 1) "_compare" 2 (fnB 2 (b__compare )) :=
  okD D sc__compare fun f cdv A outer s H E B => ⟨_, (bl_cons (st_if (pb_cmp (od_eq B.toBd.h64) (pd_var 0) (pd_var 1)) (bl_one (st_ret pd_int)) bl_nil)
    (bl_one (st_ret (pd_if (pb_cmp (od_ltA B.toBd.h64) (pd_var 0) (pd_var 1)) (pd_neg pd_int) pd_int))))⟩
/-! ### _head -/
abbrev s__head : Stmt := top 13
theorem sc__head : FnScope ["value", "kind"] ["value"] (defScope s__head) := ⟨rfl, rfl, rfl, by decide +kernel, rfl, by decide +kernel, by decide +kernel⟩
theorem ok__head {k : Nat} {f_kind_of f_size_of f__own_size : FN} (T : Txt mg) (D : Dx K mg "_head" s__head ["value"]) (h_kind_of : Fn P w K mg base k "kind_of" 1 f_kind_of) (h_size_of : Fn P w K mg base k "size_of" 1 f_size_of) (h__own_size : Fn P w K mg base k "_own_size" 1 f__own_size) : Fn P w K mg base (k + 1) "_head" 1 (fnB 2 (b__head f_kind_of f_size_of f__own_size)) :=
  okD D sc__head fun f cdv A outer s H E B => ⟨_, (bl_cons (st_asg (pd_def B.toBd h_kind_of (pl_cons (pd_var 0) pl_nil) (alen_cons alen_nil)) (tg_n 1 sc__head.nd))
    (bl_cons (st_if (pb_cmp od_eqF (pd_var 1) (pd_gi T.c_INTEGER)) (bl_one (st_ret (pd_tup (pl_cons pd_int (pl_cons (pd_var 1) (pl_cons (pd_B bi_abs T.b_abs (by decide +kernel) (pl_cons (pd_var 0) pl_nil)) (pl_cons (pd_cmp od_lt (pd_var 0) pd_int) pl_nil))))))) bl_nil)
    (bl_cons (st_if (pb_cmp od_eqF (pd_var 1) (pd_gi T.c_TEXT)) (bl_one (st_ret (pd_tup (pl_cons (pd_def B.toBd h__own_size (pl_cons (pd_var 0) pl_nil) (alen_cons alen_nil)) (pl_cons (pd_var 1) (pl_cons (pd_var 0) pl_nil)))))) bl_nil)
    (bl_one (st_ret (pd_tup (pl_cons (pd_def B.toBd h_size_of (pl_cons (pd_var 0) pl_nil) (alen_cons alen_nil)) (pl_cons (pd_var 1) pl_nil))))))))⟩
/-! ### compare_values -/
abbrev s_compare_values : Stmt := top 14
theorem sc_compare_values : FnScope ["first", "second", "order", "one", "other"] ["first", "second"] (defScope s_compare_values) := ⟨rfl, rfl, rfl, by decide +kernel, rfl, by decide +kernel, by decide +kernel⟩
theorem ok_compare_values {k : Nat} {f__compare f__head f__named_parts f_compare_values : FN} (T : Txt mg) (D : Dx K mg "compare_values" s_compare_values ["first", "second"]) (h__compare : Fn P w K mg base k "_compare" 2 f__compare) (h__head : Fn P w K mg base k "_head" 1 f__head) (h__named_parts : Fn P w K mg base k "_named_parts" 1 f__named_parts) (h_compare_values : Fn P w K mg base k "compare_values" 2 f_compare_values) : Fn P w K mg base (k + 1) "compare_values" 2 (fnB 5 (b_compare_values f__compare f__head f__named_parts f_compare_values)) :=
  okD D sc_compare_values fun f cdv A outer s H E B => ⟨_, (bl_cons (st_asg (pd_def B.toBd h__compare (pl_cons (pd_def B.toBd h__head (pl_cons (pd_var 0) pl_nil) (alen_cons alen_nil)) (pl_cons (pd_def B.toBd h__head (pl_cons (pd_var 1) pl_nil) (alen_cons alen_nil)) pl_nil)) (alen_cons (alen_cons alen_nil))) (tg_n 2 sc_compare_values.nd))
    (bl_cons (st_if (pb_cmp od_neF (pd_var 2) pd_int) (bl_one (st_ret (pd_var 2))) bl_nil)
    (bl_cons (st_for B.own B.calm (it_zip T.b_zip (pl_cons (pd_def B.toBd h__named_parts (pl_cons (pd_var 0) pl_nil) (alen_cons alen_nil)) (pl_cons (pd_def B.toBd h__named_parts (pl_cons (pd_var 1) pl_nil) (alen_cons alen_nil)) pl_nil))) (tg_t (gn_cons 3 (gn_cons 4 gn_nil sc_compare_values.nd) sc_compare_values.nd)) (bl_cons (st_asg (pd_def B.toBd h__compare (pl_cons (pd_ix B.toBd.hu (pd_var 3) pd_int) (pl_cons (pd_ix B.toBd.hu (pd_var 4) pd_int) pl_nil)) (alen_cons (alen_cons alen_nil))) (tg_n 2 sc_compare_values.nd))
    (bl_cons (st_if (pb_cmp od_eqF (pd_var 2) pd_int) (bl_one (st_asg (pd_def B.toBd h_compare_values (pl_cons (pd_ix B.toBd.hu (pd_var 3) pd_int) (pl_cons (pd_ix B.toBd.hu (pd_var 4) pd_int) pl_nil)) (alen_cons (alen_cons alen_nil))) (tg_n 2 sc_compare_values.nd))) bl_nil)
    (bl_one (st_if (pb_cmp od_neF (pd_var 2) pd_int) (bl_one (st_ret (pd_var 2))) bl_nil)))))
    (bl_one (st_ret pd_int)))))⟩
/-! ### _law_cell -/
abbrev s__law_cell : Stmt := top 16
theorem sc__law_cell : FnScope ["script", "k"] ["script", "k"] (defScope s__law_cell) := ⟨rfl, rfl, rfl, by decide +kernel, rfl, by decide +kernel, by decide +kernel⟩
theorem ok__law_cell {k : Nat}  (T : Txt mg) (D : Dx K mg "_law_cell" s__law_cell ["script", "k"])  : Fn P w K mg base (k + 1) "_law_cell" 2 (fnB 2 (b__law_cell )) :=
  okD D sc__law_cell fun f cdv A outer s H E B => ⟨_, (bl_cons (st_if (pb_cmp od_lt (pd_var 1) (pd_B bi_len T.b_len (by decide +kernel) (pl_cons (pd_var 0) pl_nil))) (bl_one (st_ret (pd_ix B.toBd.hu (pd_var 0) (pd_var 1)))) bl_nil)
    (bl_one (st_ret pd_int)))⟩
/-! ### _law_digits -/
abbrev s__law_digits : Stmt := top 17
theorem sc__law_digits : FnScope ["script", "first", "last", "digits", "k", "cell", "turn", "seed"] ["script", "first", "last"] (defScope s__law_digits) := ⟨rfl, rfl, rfl, by decide +kernel, rfl, by decide +kernel, by decide +kernel⟩
theorem ok__law_digits {k : Nat} {f__law_cell : FN} (T : Txt mg) (D : Dx K mg "_law_digits" s__law_digits ["script", "first", "last"]) (h__law_cell : Fn P w K mg base k "_law_cell" 2 f__law_cell) : Fn P w K mg base (k + 1) "_law_digits" 3 (fnB 8 (b__law_digits f__law_cell)) :=
  okD D sc__law_digits fun f cdv A outer s H E B => ⟨_, (bl_cons (st_asg (pd_new (pc_lst pl_nil)) (tg_n 3 sc__law_digits.nd))
    (bl_cons (st_for B.own B.calm (it_rng2 T.b_range (pl_cons (pd_var 1) (pl_cons (pd_var 2) pl_nil))) (tg_n 4 sc__law_digits.nd) (bl_cons (st_asg (pd_def B.toBd h__law_cell (pl_cons (pd_var 0) (pl_cons (pd_var 4) pl_nil)) (alen_cons (alen_cons alen_nil))) (tg_n 5 sc__law_digits.nd))
    (bl_cons (st_if (pb_cmp od_lt (pd_var 5) pd_int) (bl_one (st_asg (pd_bin od_sub pd_int (pd_bin od_mul pd_int (pd_var 5))) (tg_n 5 sc__law_digits.nd))) bl_nil)
    (bl_one (st_if (pb_cmp od_ge (pd_var 5) (pd_bin od_pow pd_int pd_int)) (bl_one (st_for B.own B.calm (it_rng1 T.b_range (pl_cons pd_int pl_nil)) (tg_n 6 sc__law_digits.nd) (bl_one (st_if (pb_cmp od_gt (pd_var 5) pd_int) (bl_cons (st_expr (pd_BM mi_append (pd_var 3) (pl_cons (pd_bin od_mod (pd_Ty bi_int T.b_int (by decide +kernel) (pl_cons (pd_var 5) pl_nil)) pd_int) pl_nil)))
    (bl_one (st_asg (pd_bin od_fdiv (pd_var 5) pd_int) (tg_n 5 sc__law_digits.nd)))) bl_nil)))) (bl_cons (st_asg (pd_bin od_mod (pd_Ty bi_int T.b_int (by decide +kernel) (pl_cons (pd_bin od_add (pd_bin od_add (pd_bin od_mul (pd_var 5) pd_int) (pd_bin od_mul (pd_var 4) pd_int)) pd_int) pl_nil)) pd_int) (tg_n 7 sc__law_digits.nd))
    (bl_one (st_for B.own B.calm (it_rng1 T.b_range (pl_cons pd_int pl_nil)) (tg_n 6 sc__law_digits.nd) (bl_cons (st_asg (pd_bin od_mod (pd_Ty bi_int T.b_int (by decide +kernel) (pl_cons (pd_bin od_add (pd_bin od_add (pd_bin od_mul (pd_var 7) pd_int) (pd_bin od_mul pd_int (pd_var 6))) pd_int) pl_nil)) pd_int) (tg_n 7 sc__law_digits.nd))
    (bl_one (st_expr (pd_BM mi_append (pd_var 3) (pl_cons (pd_bin od_mod (pd_Ty bi_int T.b_int (by decide +kernel) (pl_cons (pd_bin od_fdiv (pd_var 7) pd_int) pl_nil)) pd_int) pl_nil)))))))))))))
    (bl_fz 3 (bl_one (st_ret (pd_var 3))))))⟩
/-! ### _law_draw -/
abbrev s__law_draw : Stmt := top 18
theorem sc__law_draw : FnScope ["box", "many", "at"] ["box", "many"] (defScope s__law_draw) := ⟨rfl, rfl, rfl, by decide +kernel, rfl, by decide +kernel, by decide +kernel⟩
theorem ok__law_draw {k : Nat}  (T : Txt mg) (D : Dx K mg "_law_draw" s__law_draw ["box", "many"])  : Fn P w K mg base (k + 1) "_law_draw" 2 (fnB 3 (b__law_draw )) :=
  okD D sc__law_draw fun f cdv A outer s H E B => ⟨_, (bl_cons (st_asg (pd_ix B.toBd.hu (pd_var 0) pd_int) (tg_n 2 sc__law_draw.nd))
    (bl_cons (st_setL (pd_bin od_add (pd_var 2) pd_int) (pd_var 0) pd_int)
    (bl_cons (st_if (pb_cmp od_lt (pd_var 2) (pd_B bi_len T.b_len (by decide +kernel) (pl_cons (pd_ix B.toBd.hu (pd_var 0) pd_int) pl_nil))) (bl_one (st_ret (pd_bin od_mod (pd_Ty bi_int T.b_int (by decide +kernel) (pl_cons (pd_ix B.toBd.hu (pd_ix B.toBd.hu (pd_var 0) pd_int) (pd_var 2)) pl_nil)) (pd_var 1)))) bl_nil)
    (bl_one (st_ret pd_int)))))⟩
/-! ### _law_name -/
abbrev s__law_name : Stmt := top 19
theorem sc__law_name : FnScope ["box"] ["box"] (defScope s__law_name) := ⟨rfl, rfl, rfl, by decide +kernel, rfl, by decide +kernel, by decide +kernel⟩
theorem ok__law_name {k : Nat} {f__law_draw : FN} (T : Txt mg) (D : Dx K mg "_law_name" s__law_name ["box"]) (h__law_draw : Fn P w K mg base k "_law_draw" 2 f__law_draw) : Fn P w K mg base (k + 1) "_law_name" 1 (fnB 1 (b__law_name f__law_draw)) :=
  okD D sc__law_name fun f cdv A outer s H E B => ⟨_, (bl_one (st_ret (pd_ix B.toBd.hu (pd_fz (pc_lst (pl_cons pd_str (pl_cons pd_str (pl_cons pd_str (pl_cons pd_str (pl_cons pd_str (pl_cons pd_str (pl_cons pd_str (pl_cons pd_str pl_nil)))))))))) (pd_def B.toBd h__law_draw (pl_cons (pd_var 0) (pl_cons pd_int pl_nil)) (alen_cons (alen_cons alen_nil))))))⟩
/-! ### _law_word -/
abbrev s__law_word : Stmt := top 20
theorem sc__law_word : FnScope ["box", "word", "k"] ["box"] (defScope s__law_word) := ⟨rfl, rfl, rfl, by decide +kernel, rfl, by decide +kernel, by decide +kernel⟩
theorem ok__law_word {k : Nat} {f__law_draw : FN} (T : Txt mg) (D : Dx K mg "_law_word" s__law_word ["box"]) (h__law_draw : Fn P w K mg base k "_law_draw" 2 f__law_draw) : Fn P w K mg base (k + 1) "_law_word" 1 (fnB 3 (b__law_word f__law_draw)) :=
  okD D sc__law_word fun f cdv A outer s H E B => ⟨_, (bl_cons (st_asg pd_str (tg_n 1 sc__law_word.nd))
    (bl_cons (st_for B.own B.calm (it_rng1 T.b_range (pl_cons (pd_def B.toBd h__law_draw (pl_cons (pd_var 0) (pl_cons pd_int pl_nil)) (alen_cons (alen_cons alen_nil))) pl_nil)) (tg_n 2 sc__law_word.nd) (bl_one (st_asg (pd_bin od_add (pd_var 1) (pd_ix B.toBd.hu pd_str (pd_def B.toBd h__law_draw (pl_cons (pd_var 0) (pl_cons pd_int pl_nil)) (alen_cons (alen_cons alen_nil))))) (tg_n 1 sc__law_word.nd))))
    (bl_one (st_ret (pd_var 1)))))⟩
/-! ### _law_number -/
abbrev s__law_number : Stmt := top 21
theorem sc__law_number : FnScope ["box", "kind"] ["box"] (defScope s__law_number) := ⟨rfl, rfl, rfl, by decide +kernel, rfl, by decide +kernel, by decide +kernel⟩
theorem ok__law_number {k : Nat} {f__law_draw : FN} (T : Txt mg) (D : Dx K mg "_law_number" s__law_number ["box"]) (h__law_draw : Fn P w K mg base k "_law_draw" 2 f__law_draw) : Fn P w K mg base (k + 1) "_law_number" 1 (fnB 2 (b__law_number f__law_draw)) :=
  okD D sc__law_number fun f cdv A outer s H E B => ⟨_, (bl_cons (st_asg (pd_def B.toBd h__law_draw (pl_cons (pd_var 0) (pl_cons pd_int pl_nil)) (alen_cons (alen_cons alen_nil))) (tg_n 1 sc__law_number.nd))
    (bl_cons (st_if (pb_cmp od_eqF (pd_var 1) pd_int) (bl_one (st_ret (pd_bin od_sub (pd_def B.toBd h__law_draw (pl_cons (pd_var 0) (pl_cons pd_int pl_nil)) (alen_cons (alen_cons alen_nil))) pd_int))) bl_nil)
    (bl_cons (st_if (pb_cmp od_eqF (pd_var 1) pd_int) (bl_one (st_ret (pd_bin od_sub (pd_def B.toBd h__law_draw (pl_cons (pd_var 0) (pl_cons pd_int pl_nil)) (alen_cons (alen_cons alen_nil))) pd_int))) bl_nil)
    (bl_cons (st_if (pb_cmp od_eqF (pd_var 1) pd_int) (bl_one (st_ret (pd_bin od_add (pd_bin od_mul (pd_def B.toBd h__law_draw (pl_cons (pd_var 0) (pl_cons pd_int pl_nil)) (alen_cons (alen_cons alen_nil))) pd_int) (pd_def B.toBd h__law_draw (pl_cons (pd_var 0) (pl_cons pd_int pl_nil)) (alen_cons (alen_cons alen_nil)))))) bl_nil)
    (bl_one (st_ret (pd_bin od_sub pd_int (pd_bin od_mul pd_int (pd_def B.toBd h__law_draw (pl_cons (pd_var 0) (pl_cons pd_int pl_nil)) (alen_cons (alen_cons alen_nil)))))))))))⟩
/-! ### _law_value -/
abbrev s__law_value : Stmt := top 22
theorem sc__law_value : FnScope ["box", "depth", "kind", "record", "k"] ["box", "depth"] (defScope s__law_value) := ⟨rfl, rfl, rfl, by decide +kernel, rfl, by decide +kernel, by decide +kernel⟩
theorem ok__law_value {k : Nat} {f__law_draw f__law_word f__law_name f__law_value f__law_number : FN} (T : Txt mg) (D : Dx K mg "_law_value" s__law_value ["box", "depth"]) (h__law_draw : Fn P w K mg base k "_law_draw" 2 f__law_draw) (h__law_word : Fn P w K mg base k "_law_word" 1 f__law_word) (h__law_name : Fn P w K mg base k "_law_name" 1 f__law_name) (h__law_value : Fn P w K mg base k "_law_value" 2 f__law_value) (h__law_number : Fn P w K mg base k "_law_number" 1 f__law_number) : Fn P w K mg base (k + 1) "_law_value" 2 (fnB 5 (b__law_value f__law_draw f__law_word f__law_name f__law_value f__law_number)) :=
  okD D sc__law_value fun f cdv A outer s H E B => ⟨_, (bl_cons (st_asg (pd_def B.toBd h__law_draw (pl_cons (pd_var 0) (pl_cons pd_int pl_nil)) (alen_cons (alen_cons alen_nil))) (tg_n 2 sc__law_value.nd))
    (bl_cons (st_if (pb_bool (pwb_or (pb_cmp od_eqF (pd_var 1) pd_int) (pw1_or (pb_cmp od_lt (pd_var 2) pd_int)))) (bl_cons (st_if (pb_bool (pwb_or (pb_cmp od_lt (pd_var 2) pd_int) (pw1_or (pb_cmp od_eqF (pd_var 2) pd_int)))) (bl_one (st_ret (pd_def B.toBd h__law_number (pl_cons (pd_var 0) pl_nil) (alen_cons alen_nil)))) bl_nil)
    (bl_one (st_ret (pd_def B.toBd h__law_word (pl_cons (pd_var 0) pl_nil) (alen_cons alen_nil))))) bl_nil)
    (bl_cons (st_if (pb_cmp od_lt (pd_var 2) pd_int) (bl_one (st_ret (pd_fz (pc_lc (plc (own := [("k", 4)]) (N := ["box", "depth", "kind", "record", "k"]) (sc := defScope s__law_value) B.toBd sc__law_value.nd (it_rng1 T.b_range (pl_cons (pd_def B.toBd h__law_draw (pl_cons (pd_var 0) (pl_cons pd_int pl_nil)) (alen_cons (alen_cons alen_nil))) pl_nil)) (by decide +kernel) (fun _ _ _ _ _ => (tg_n 4 sc__law_value.nd)) (fun _ _ _ _ _ Bx => pts0) (fun _ _ _ _ _ Bx => (pd_def Bx h__law_value (pl_cons (pd_var 0) (pl_cons (pd_bin od_sub (pd_var 1) pd_int) pl_nil)) (alen_cons (alen_cons alen_nil))))))))) bl_nil)
    (bl_cons (st_if (pb_cmp od_lt (pd_var 2) pd_int) (bl_cons (st_asg (pd_new pc_dct0) (tg_n 3 sc__law_value.nd))
    (bl_cons (st_for B.own B.calm (it_rng1 T.b_range (pl_cons (pd_def B.toBd h__law_draw (pl_cons (pd_var 0) (pl_cons pd_int pl_nil)) (alen_cons (alen_cons alen_nil))) pl_nil)) (tg_n 4 sc__law_value.nd) (bl_one (st_setD B.toBd.hu (pd_def B.toBd h__law_value (pl_cons (pd_var 0) (pl_cons (pd_bin od_sub (pd_var 1) pd_int) pl_nil)) (alen_cons (alen_cons alen_nil))) (pd_var 3) (pd_def B.toBd h__law_name (pl_cons (pd_var 0) pl_nil) (alen_cons alen_nil)))))
    (bl_fz 3 (bl_one (st_ret (pd_var 3)))))) bl_nil)
    (bl_one (st_ret (pd_tup (pl_cons (pd_def B.toBd h__law_name (pl_cons (pd_var 0) pl_nil) (alen_cons alen_nil)) (pl_cons (pd_def B.toBd h__law_value (pl_cons (pd_var 0) (pl_cons (pd_bin od_sub (pd_var 1) pd_int) pl_nil)) (alen_cons (alen_cons alen_nil))) pl_nil)))))))))⟩
/-! ### _law_rank -/
abbrev s__law_rank : Stmt := top 23
theorem sc__law_rank : FnScope ["value"] ["value"] (defScope s__law_rank) := ⟨rfl, rfl, rfl, by decide +kernel, rfl, by decide +kernel, by decide +kernel⟩
theorem ok__law_rank {k : Nat}  (T : Txt mg) (D : Dx K mg "_law_rank" s__law_rank ["value"])  : Fn P w K mg base (k + 1) "_law_rank" 1 (fnB 1 (b_kind_of )) :=
  okD D sc__law_rank fun f cdv A outer s H E B => ⟨_, (bl_cons (st_if (pb_truth (pd_isi (pd_var 0) T.b_isinstance T.b_int (by decide +kernel))) (bl_one (st_ret pd_int)) bl_nil)
    (bl_cons (st_if (pb_truth (pd_isi (pd_var 0) T.b_isinstance T.b_str (by decide +kernel))) (bl_one (st_ret pd_int)) bl_nil)
    (bl_cons (st_if (pb_truth (pd_isi (pd_var 0) T.b_isinstance T.b_list (by decide +kernel))) (bl_one (st_ret pd_int)) bl_nil)
    (bl_cons (st_if (pb_truth (pd_isi (pd_var 0) T.b_isinstance T.b_dict (by decide +kernel))) (bl_one (st_ret pd_int)) bl_nil)
    (bl_one (st_ret pd_int))))))⟩
/-! ### _law_parts -/
abbrev s__law_parts : Stmt := top 24
theorem sc__law_parts : FnScope ["value", "rank", "part", "name"] ["value"] (defScope s__law_parts) := ⟨rfl, rfl, rfl, by decide +kernel, rfl, by decide +kernel, by decide +kernel⟩
theorem ok__law_parts {k : Nat} {f__law_rank : FN} (T : Txt mg) (D : Dx K mg "_law_parts" s__law_parts ["value"]) (h__law_rank : Fn P w K mg base k "_law_rank" 1 f__law_rank) : Fn P w K mg base (k + 1) "_law_parts" 1 (fnB 4 (b__law_parts f__law_rank)) :=
  okD D sc__law_parts fun f cdv A outer s H E B => ⟨_, (bl_cons (st_asg (pd_def B.toBd h__law_rank (pl_cons (pd_var 0) pl_nil) (alen_cons alen_nil)) (tg_n 1 sc__law_parts.nd))
    (bl_cons (st_if (pb_cmp od_eqF (pd_var 1) pd_int) (bl_one (st_ret (pd_fz (pc_lc (plc (own := [("part", 2)]) (N := ["value", "rank", "part", "name"]) (sc := defScope s__law_parts) B.toBd sc__law_parts.nd (it_lst (pd_var 0)) (by decide +kernel) (fun _ _ _ _ _ => (tg_n 2 sc__law_parts.nd)) (fun _ _ _ _ _ Bx => pts0) (fun _ _ _ _ _ Bx => (pd_var 2))))))) bl_nil)
    (bl_cons (st_if (pb_cmp od_eqF (pd_var 1) pd_int) (bl_one (st_ret (pd_fz (pc_lc (plc (own := [("name", 3)]) (N := ["value", "rank", "part", "name"]) (sc := defScope s__law_parts) B.toBd sc__law_parts.nd (it_lst (pd_fz (pc_B bn_sorted T.b_sorted (by decide +kernel) (pl_cons (pd_var 0) pl_nil)))) (by decide +kernel) (fun _ _ _ _ _ => (tg_n 3 sc__law_parts.nd)) (fun _ _ _ _ _ Bx => pts0) (fun _ _ _ _ _ Bx => (pd_ix Bx.hu (pd_var 0) (pd_var 3)))))))) bl_nil)
    (bl_cons (st_if (pb_cmp od_eqF (pd_var 1) pd_int) (bl_one (st_ret (pd_fz (pc_lst (pl_cons (pd_ix B.toBd.hu (pd_var 0) pd_int) pl_nil))))) bl_nil)
    (bl_one (st_ret (pd_fz (pc_lst pl_nil))))))))⟩
/-! ### _law_size -/
abbrev s__law_size : Stmt := top 25
theorem sc__law_size : FnScope ["value", "size", "part"] ["value"] (defScope s__law_size) := ⟨rfl, rfl, rfl, by decide +kernel, rfl, by decide +kernel, by decide +kernel⟩
theorem ok__law_size {k : Nat} {f__law_parts f__law_rank f__law_size : FN} (T : Txt mg) (D : Dx K mg "_law_size" s__law_size ["value"]) (h__law_parts : Fn P w K mg base k "_law_parts" 1 f__law_parts) (h__law_rank : Fn P w K mg base k "_law_rank" 1 f__law_rank) (h__law_size : Fn P w K mg base k "_law_size" 1 f__law_size) : Fn P w K mg base (k + 1) "_law_size" 1 (fnB 3 (b__law_size f__law_parts f__law_rank f__law_size)) :=
  okD D sc__law_size fun f cdv A outer s H E B => ⟨_, (bl_cons (st_if (pb_cmp od_eqF (pd_def B.toBd h__law_rank (pl_cons (pd_var 0) pl_nil) (alen_cons alen_nil)) pd_int) (bl_one (st_ret (pd_bin od_add pd_int (pd_B bi_len T.b_len (by decide +kernel) (pl_cons (pd_var 0) pl_nil))))) bl_nil)
    (bl_cons (st_asg pd_int (tg_n 1 sc__law_size.nd))
    (bl_cons (st_for B.own B.calm (it_lst (pd_def B.toBd h__law_parts (pl_cons (pd_var 0) pl_nil) (alen_cons alen_nil))) (tg_n 2 sc__law_size.nd) (bl_one (st_asg (pd_bin od_add (pd_var 1) (pd_def B.toBd h__law_size (pl_cons (pd_var 2) pl_nil) (alen_cons alen_nil))) (tg_n 1 sc__law_size.nd))))
    (bl_one (st_ret (pd_var 1))))))⟩
/-! ### _law_sign -/
abbrev s__law_sign : Stmt := top 27
theorem sc__law_sign : FnScope ["one", "other"] ["one", "other"] (defScope s__law_sign) := ⟨rfl, rfl, rfl, by decide +kernel, rfl, by decide +kernel, by decide +kernel⟩
theorem ok__law_sign {k : Nat}  (T : Txt mg) (D : Dx K mg "_law_sign" s__law_sign ["one", "other"])  : Fn P w K mg base (k + 1) "_law_sign" 2 (fnB 2 (b__law_sign )) :=
  okD D sc__law_sign fun f cdv A outer s H E B => ⟨_, (bl_cons (st_if (pb_cmp od_lt (pd_var 0) (pd_var 1)) (bl_one (st_ret (pd_neg pd_int))) bl_nil)
    (bl_cons (st_if (pb_cmp od_gt (pd_var 0) (pd_var 1)) (bl_one (st_ret pd_int)) bl_nil)
    (bl_one (st_ret pd_int))))⟩
/-! ### _law_before -/
abbrev s__law_before : Stmt := top 28
theorem sc__law_before : FnScope ["one", "other", "found", "names", "ones", "others", "k"] ["one", "other"] (defScope s__law_before) := ⟨rfl, rfl, rfl, by decide +kernel, rfl, by decide +kernel, by decide +kernel⟩
theorem ok__law_before {k : Nat} {f__law_sign f__law_parts f__law_size f__law_rank f__law_before : FN} (T : Txt mg) (D : Dx K mg "_law_before" s__law_before ["one", "other"]) (h__law_sign : Fn P w K mg base k "_law_sign" 2 f__law_sign) (h__law_parts : Fn P w K mg base k "_law_parts" 1 f__law_parts) (h__law_size : Fn P w K mg base k "_law_size" 1 f__law_size) (h__law_rank : Fn P w K mg base k "_law_rank" 1 f__law_rank) (h__law_before : Fn P w K mg base k "_law_before" 2 f__law_before) : Fn P w K mg base (k + 1) "_law_before" 2 (fnB 7 (b__law_before f__law_sign f__law_parts f__law_size f__law_rank f__law_before)) :=
  okD D sc__law_before fun f cdv A outer s H E B => ⟨_, (bl_cons (st_asg (pd_def B.toBd h__law_sign (pl_cons (pd_def B.toBd h__law_size (pl_cons (pd_var 0) pl_nil) (alen_cons alen_nil)) (pl_cons (pd_def B.toBd h__law_size (pl_cons (pd_var 1) pl_nil) (alen_cons alen_nil)) pl_nil)) (alen_cons (alen_cons alen_nil))) (tg_n 2 sc__law_before.nd))
    (bl_cons (st_if (pb_cmp od_eqF (pd_var 2) pd_int) (bl_one (st_asg (pd_def B.toBd h__law_sign (pl_cons (pd_def B.toBd h__law_rank (pl_cons (pd_var 0) pl_nil) (alen_cons alen_nil)) (pl_cons (pd_def B.toBd h__law_rank (pl_cons (pd_var 1) pl_nil) (alen_cons alen_nil)) pl_nil)) (alen_cons (alen_cons alen_nil))) (tg_n 2 sc__law_before.nd))) bl_nil)
    (bl_cons (st_if (pb_cmp od_neF (pd_var 2) pd_int) (bl_one (st_ret (pd_var 2))) bl_nil)
    (bl_cons (st_if (pb_cmp od_eqF (pd_def B.toBd h__law_rank (pl_cons (pd_var 0) pl_nil) (alen_cons alen_nil)) pd_int) (bl_one (st_ret (pd_def B.toBd h__law_sign (pl_cons (pd_bin od_add (pd_bin od_mul pd_int (pd_B bi_abs T.b_abs (by decide +kernel) (pl_cons (pd_var 0) pl_nil))) (pd_Ty bi_int T.b_int (by decide +kernel) (pl_cons (pd_cmp od_lt (pd_var 0) pd_int) pl_nil))) (pl_cons (pd_bin od_add (pd_bin od_mul pd_int (pd_B bi_abs T.b_abs (by decide +kernel) (pl_cons (pd_var 1) pl_nil))) (pd_Ty bi_int T.b_int (by decide +kernel) (pl_cons (pd_cmp od_lt (pd_var 1) pd_int) pl_nil))) pl_nil)) (alen_cons (alen_cons alen_nil))))) bl_nil)
    (bl_cons (st_if (pb_cmp od_eqF (pd_def B.toBd h__law_rank (pl_cons (pd_var 0) pl_nil) (alen_cons alen_nil)) pd_int) (bl_one (st_ret (pd_def B.toBd h__law_sign (pl_cons (pd_var 0) (pl_cons (pd_var 1) pl_nil)) (alen_cons (alen_cons alen_nil))))) bl_nil)
    (bl_cons (st_asg (pd_fz (pc_lst (pl_cons pd_str (pl_cons pd_str pl_nil)))) (tg_n 3 sc__law_before.nd))
    (bl_cons (st_if (pb_cmp od_eqF (pd_def B.toBd h__law_rank (pl_cons (pd_var 0) pl_nil) (alen_cons alen_nil)) pd_int) (bl_cons (st_if (pb_cmp od_neF (pd_ix B.toBd.hu (pd_var 0) pd_int) (pd_ix B.toBd.hu (pd_var 1) pd_int)) (bl_one (st_ret (pd_def B.toBd h__law_sign (pl_cons (pd_ix B.toBd.hu (pd_var 0) pd_int) (pl_cons (pd_ix B.toBd.hu (pd_var 1) pd_int) pl_nil)) (alen_cons (alen_cons alen_nil))))) bl_nil)
    (bl_one (st_ret (pd_def B.toBd h__law_before (pl_cons (pd_ix B.toBd.hu (pd_var 0) pd_int) (pl_cons (pd_ix B.toBd.hu (pd_var 1) pd_int) pl_nil)) (alen_cons (alen_cons alen_nil)))))) bl_nil)
    (bl_cons (st_asg (pd_def B.toBd h__law_parts (pl_cons (pd_var 0) pl_nil) (alen_cons alen_nil)) (tg_n 4 sc__law_before.nd))
    (bl_cons (st_asg (pd_def B.toBd h__law_parts (pl_cons (pd_var 1) pl_nil) (alen_cons alen_nil)) (tg_n 5 sc__law_before.nd))
    (bl_cons (st_for B.own B.calm (it_rng1 T.b_range (pl_cons (pd_B bi_min T.b_min (by decide +kernel) (pl_cons (pd_B bi_len T.b_len (by decide +kernel) (pl_cons (pd_var 4) pl_nil)) (pl_cons (pd_B bi_len T.b_len (by decide +kernel) (pl_cons (pd_var 5) pl_nil)) pl_nil))) pl_nil)) (tg_n 6 sc__law_before.nd) (bl_cons (st_if (pb_cmp od_eqF (pd_def B.toBd h__law_rank (pl_cons (pd_var 0) pl_nil) (alen_cons alen_nil)) pd_int) (bl_one (st_asg (pd_fz (pc_lst (pl_cons (pd_ix B.toBd.hu (pd_fz (pc_B bn_sorted T.b_sorted (by decide +kernel) (pl_cons (pd_var 0) pl_nil))) (pd_var 6)) (pl_cons (pd_ix B.toBd.hu (pd_fz (pc_B bn_sorted T.b_sorted (by decide +kernel) (pl_cons (pd_var 1) pl_nil))) (pd_var 6)) pl_nil)))) (tg_n 3 sc__law_before.nd))) bl_nil)
    (bl_cons (st_if (pb_cmp od_neF (pd_ix B.toBd.hu (pd_var 3) pd_int) (pd_ix B.toBd.hu (pd_var 3) pd_int)) (bl_one (st_ret (pd_def B.toBd h__law_sign (pl_cons (pd_ix B.toBd.hu (pd_var 3) pd_int) (pl_cons (pd_ix B.toBd.hu (pd_var 3) pd_int) pl_nil)) (alen_cons (alen_cons alen_nil))))) bl_nil)
    (bl_cons (st_asg (pd_def B.toBd h__law_before (pl_cons (pd_ix B.toBd.hu (pd_var 4) (pd_var 6)) (pl_cons (pd_ix B.toBd.hu (pd_var 5) (pd_var 6)) pl_nil)) (alen_cons (alen_cons alen_nil))) (tg_n 2 sc__law_before.nd))
    (bl_one (st_if (pb_cmp od_neF (pd_var 2) pd_int) (bl_one (st_ret (pd_var 2))) bl_nil))))))
    (bl_one (st_ret (pd_def B.toBd h__law_sign (pl_cons (pd_B bi_len T.b_len (by decide +kernel) (pl_cons (pd_var 4) pl_nil)) (pl_cons (pd_B bi_len T.b_len (by decide +kernel) (pl_cons (pd_var 5) pl_nil)) pl_nil)) (alen_cons (alen_cons alen_nil)))))))))))))))⟩
/-! ### _law_whole -/
abbrev s__law_whole : Stmt := top 29
theorem sc__law_whole : FnScope ["box", "kind", "part", "others", "at", "record", "k"] ["box", "kind", "part", "others"] (defScope s__law_whole) := ⟨rfl, rfl, rfl, by decide +kernel, rfl, by decide +kernel, by decide +kernel⟩
theorem ok__law_whole {k : Nat} {f__law_draw : FN} (T : Txt mg) (D : Dx K mg "_law_whole" s__law_whole ["box", "kind", "part", "others"]) (h__law_draw : Fn P w K mg base k "_law_draw" 2 f__law_draw) : Fn P w K mg base (k + 1) "_law_whole" 4 (fnB 7 (b__law_whole f__law_draw)) :=
  okD D sc__law_whole fun f cdv A outer s H E B => ⟨_, (bl_cons (st_if (pb_cmp od_eqF (pd_var 1) pd_int) (bl_cons (st_asg (pd_def B.toBd h__law_draw (pl_cons (pd_var 0) (pl_cons (pd_bin od_add (pd_B bi_len T.b_len (by decide +kernel) (pl_cons (pd_var 3) pl_nil)) pd_int) pl_nil)) (alen_cons (alen_cons alen_nil))) (tg_n 4 sc__law_whole.nd))
    (bl_one (st_ret (pd_fz (pc_cat (pd_fz (pc_cat (pd_fz (pc_slL (pd_var 3) po_n (po_s (pd_var 4)))) (pd_fz (pc_lst (pl_cons (pd_var 2) pl_nil))))) (pd_fz (pc_slL (pd_var 3) (po_s (pd_var 4)) po_n))))))) bl_nil)
    (bl_cons (st_if (pb_cmp od_eqF (pd_var 1) pd_int) (bl_cons (st_asg (pd_new (pc_disp (pps_c pd_str (pd_var 2) pps_n))) (tg_n 5 sc__law_whole.nd))
    (bl_cons (st_for B.own B.calm (it_rng1 T.b_range (pl_cons (pd_B bi_len T.b_len (by decide +kernel) (pl_cons (pd_var 3) pl_nil)) pl_nil)) (tg_n 6 sc__law_whole.nd) (bl_one (st_setD B.toBd.hu (pd_ix B.toBd.hu (pd_var 3) (pd_var 6)) (pd_var 5) (pd_ix B.toBd.hu pd_str (pd_var 6)))))
    (bl_fz 5 (bl_one (st_ret (pd_var 5)))))) bl_nil)
    (bl_one (st_ret (pd_tup (pl_cons pd_str (pl_cons (pd_var 2) pl_nil)))))))⟩
/-! ### law -/
abbrev s_law : Stmt := top 30
theorem sc_law : FnScope ["script", "box", "turn", "one", "other", "others", "kind", "at", "first", "second", "more", "k"] ["script"] (defScope s_law) := ⟨rfl, rfl, rfl, by decide +kernel, rfl, by decide +kernel, by decide +kernel⟩
theorem ok_law {k : Nat} {f__law_digits f__law_value f__law_draw f__law_whole f_compare_values f__law_before : FN} {f : Addr} {fd : FuncData} (T : Txt mg) (F : L2.Fun K "law" "law" s_law f fd) (h__law_digits : Fn P w K mg base k "_law_digits" 3 f__law_digits) (h__law_value : Fn P w K mg base k "_law_value" 2 f__law_value) (h__law_draw : Fn P w K mg base k "_law_draw" 2 f__law_draw) (h__law_whole : Fn P w K mg base k "_law_whole" 4 f__law_whole) (h_compare_values : Fn P w K mg base k "compare_values" 2 f_compare_values) (h__law_before : Fn P w K mg base k "_law_before" 2 f__law_before) : FnOk P w K mg base (L2.CX P w) (k + 1) f fd ["script"] (spM K 1 (fnB 12 (b_law_k03 f__law_digits f__law_value f__law_draw f__law_whole f_compare_values f__law_before))) :=
  okF F sc_law fun cdv A outer s H E B => ⟨_, (bl_cons (st_asg (pd_new (pc_lst (pl_cons (pd_def B.toBd h__law_digits (pl_cons (pd_var 0) (pl_cons pd_int (pl_cons pd_int pl_nil))) (alen_cons (alen_cons (alen_cons alen_nil)))) (pl_cons pd_int pl_nil)))) (tg_n 1 sc_law.nd))
    (bl_cons (st_for B.own B.calm (it_rng1 T.b_range (pl_cons pd_int pl_nil)) (tg_n 2 sc_law.nd) (bl_cons (st_asg (pd_def B.toBd h__law_value (pl_cons (pd_var 1) (pl_cons pd_int pl_nil)) (alen_cons (alen_cons alen_nil))) (tg_n 3 sc_law.nd))
    (bl_cons (st_asg (pd_def B.toBd h__law_value (pl_cons (pd_var 1) (pl_cons pd_int pl_nil)) (alen_cons (alen_cons alen_nil))) (tg_n 4 sc_law.nd))
    (bl_cons (have q := (plc (own := [("k", 11)]) (N := ["script", "box", "turn", "one", "other", "others", "kind", "at", "first", "second", "more", "k"]) (sc := defScope s_law) B.toBd sc_law.nd (it_rng1 T.b_range (pl_cons (pd_def B.toBd h__law_draw (pl_cons (pd_var 1) (pl_cons pd_int pl_nil)) (alen_cons (alen_cons alen_nil))) pl_nil)) (by decide +kernel) (fun _ _ _ _ _ => (tg_n 11 sc_law.nd)) (fun _ _ _ _ _ Bx => pts0) (fun _ _ _ _ _ Bx => (pd_def Bx h__law_value (pl_cons (pd_var 1) (pl_cons pd_int pl_nil)) (alen_cons (alen_cons alen_nil))))); st_lc 5 q (eok_fz q.ok) (sw_true rfl rfl rfl (by decide +kernel)))
    (bl_cons (st_asg (pd_def B.toBd h__law_draw (pl_cons (pd_var 1) (pl_cons pd_int pl_nil)) (alen_cons (alen_cons alen_nil))) (tg_n 6 sc_law.nd))
    (bl_cons (st_asg (pd_ix B.toBd.hu (pd_var 1) pd_int) (tg_n 7 sc_law.nd))
    (bl_cons (st_asg (pd_def B.toBd h__law_whole (pl_cons (pd_var 1) (pl_cons (pd_var 6) (pl_cons (pd_var 3) (pl_cons (pd_var 5) pl_nil)))) (alen_cons (alen_cons (alen_cons (alen_cons alen_nil))))) (tg_n 8 sc_law.nd))
    (bl_cons (st_setL (pd_var 7) (pd_var 1) pd_int)
    (bl_cons (st_asg (pd_def B.toBd h__law_whole (pl_cons (pd_var 1) (pl_cons (pd_var 6) (pl_cons (pd_var 4) (pl_cons (pd_var 5) pl_nil)))) (alen_cons (alen_cons (alen_cons (alen_cons alen_nil))))) (tg_n 9 sc_law.nd))
    (bl_cons (st_if (pb_cmp od_neF (pd_def B.toBd h_compare_values (pl_cons (pd_var 8) (pl_cons (pd_var 9) pl_nil)) (alen_cons (alen_cons alen_nil))) (pd_def B.toBd h__law_before (pl_cons (pd_var 3) (pl_cons (pd_var 4) pl_nil)) (alen_cons (alen_cons alen_nil)))) (bl_one (st_ret pd_bl)) bl_nil)
    (bl_cons (st_if (pb_bool (pwb_and (pb_cmp od_eqF (pd_var 6) pd_int) (pw1_and (pb_cmp od_neF (pd_def B.toBd h_compare_values (pl_cons (pd_var 8) (pl_cons (pd_fz (pc_cat (pd_var 8) (pd_fz (pc_lst (pl_cons (pd_var 3) pl_nil))))) pl_nil)) (alen_cons (alen_cons alen_nil))) (pd_neg pd_int))))) (bl_one (st_ret pd_bl)) bl_nil)
    (bl_one (st_if (pb_cmp od_eqF (pd_var 6) pd_int) (bl_cons (st_asg (pd_new (pc_Ty bn_dict T.b_dict (by decide +kernel) (pl_cons (pd_var 8) pl_nil))) (tg_n 10 sc_law.nd))
    (bl_cons (st_setD B.toBd.hu (pd_var 4) (pd_var 10) pd_str)
    (bl_fz 10 (bl_one (st_if (pb_cmp od_neF (pd_def B.toBd h_compare_values (pl_cons (pd_var 8) (pl_cons (pd_rd (pd_var 10)) pl_nil)) (alen_cons (alen_cons alen_nil))) (pd_neg pd_int)) (bl_one (st_ret pd_bl)) bl_nil))))) bl_nil)))))))))))))
    (bl_one (st_ret pd_bl))))⟩
/-- all that stands -/
structure All (K : PySem.W.Frag) (mg : Str → Option Value) : Prop where
  T : Txt mg
  d_kind_of : Dx K mg "kind_of" s_kind_of ["value"]
  d_sorted_fields : Dx K mg "sorted_fields" s_sorted_fields ["record"]
  d__named_parts : Dx K mg "_named_parts" s__named_parts ["value"]
  d_parts_of : Dx K mg "parts_of" s_parts_of ["value"]
  d__own_size : Dx K mg "_own_size" s__own_size ["value"]
  d_size_of : Dx K mg "size_of" s_size_of ["value"]
  d__compare : Dx K mg "_compare" s__compare ["first", "second"]
  d__head : Dx K mg "_head" s__head ["value"]
  d_compare_values : Dx K mg "compare_values" s_compare_values ["first", "second"]
  d__law_cell : Dx K mg "_law_cell" s__law_cell ["script", "k"]
  d__law_digits : Dx K mg "_law_digits" s__law_digits ["script", "first", "last"]
  d__law_draw : Dx K mg "_law_draw" s__law_draw ["box", "many"]
  d__law_name : Dx K mg "_law_name" s__law_name ["box"]
  d__law_word : Dx K mg "_law_word" s__law_word ["box"]
  d__law_number : Dx K mg "_law_number" s__law_number ["box"]
  d__law_value : Dx K mg "_law_value" s__law_value ["box", "depth"]
  d__law_rank : Dx K mg "_law_rank" s__law_rank ["value"]
  d__law_parts : Dx K mg "_law_parts" s__law_parts ["value"]
  d__law_size : Dx K mg "_law_size" s__law_size ["value"]
  d__law_sign : Dx K mg "_law_sign" s__law_sign ["one", "other"]
  d__law_before : Dx K mg "_law_before" s__law_before ["one", "other"]
  d__law_whole : Dx K mg "_law_whole" s__law_whole ["box", "kind", "part", "others"]
theorem fn_kind_of (A : All K mg) : Fn P w K mg base 1 "kind_of" 1 F_kind_of := ok_kind_of (k := 0) A.T A.d_kind_of 
theorem fn_sorted_fields (A : All K mg) : Fn P w K mg base 1 "sorted_fields" 1 F_sorted_fields := ok_sorted_fields (k := 0) A.T A.d_sorted_fields 
theorem fn__named_parts (A : All K mg) : Fn P w K mg base 2 "_named_parts" 1 F__named_parts := ok__named_parts (k := 1) A.T A.d__named_parts ((fn_kind_of A).mono (by decide)) ((fn_sorted_fields A).mono (by decide))
theorem fn_parts_of (A : All K mg) : Fn P w K mg base 3 "parts_of" 1 F_parts_of := ok_parts_of (k := 2) A.T A.d_parts_of ((fn__named_parts A).mono (by decide))
theorem fn__own_size (A : All K mg) : Fn P w K mg base 1 "_own_size" 1 F__own_size := ok__own_size (k := 0) A.T A.d__own_size 
theorem fn_size_of (A : All K mg) : Fn P w K mg base 4 "size_of" 1 F_size_of := ok_size_of (k := 3) A.T A.d_size_of ((fn__own_size A).mono (by decide)) ((fn_parts_of A).mono (by decide))
theorem fn__compare (A : All K mg) : Fn P w K mg base 1 "_compare" 2 F__compare := ok__compare (k := 0) A.T A.d__compare 
theorem fn__head (A : All K mg) : Fn P w K mg base 5 "_head" 1 F__head := ok__head (k := 4) A.T A.d__head ((fn_kind_of A).mono (by decide)) ((fn_size_of A).mono (by decide)) ((fn__own_size A).mono (by decide))
theorem fn_compare_values (A : All K mg) : ∀ n : Nat, Fn P w K mg base (5 + n) "compare_values" 2 (F_compare_values n)
  | 0 => okD0 A.d_compare_values
  | n + 1 => ok_compare_values (k := 5 + n) A.T A.d_compare_values ((fn__compare A).mono (by omega)) ((fn__head A).mono (by omega)) ((fn__named_parts A).mono (by omega)) (fn_compare_values A n)
theorem fn__law_cell (A : All K mg) : Fn P w K mg base 1 "_law_cell" 2 F__law_cell := ok__law_cell (k := 0) A.T A.d__law_cell 
theorem fn__law_digits (A : All K mg) : Fn P w K mg base 2 "_law_digits" 3 F__law_digits := ok__law_digits (k := 1) A.T A.d__law_digits ((fn__law_cell A).mono (by decide))
theorem fn__law_draw (A : All K mg) : Fn P w K mg base 1 "_law_draw" 2 F__law_draw := ok__law_draw (k := 0) A.T A.d__law_draw 
theorem fn__law_name (A : All K mg) : Fn P w K mg base 2 "_law_name" 1 F__law_name := ok__law_name (k := 1) A.T A.d__law_name ((fn__law_draw A).mono (by decide))
theorem fn__law_word (A : All K mg) : Fn P w K mg base 2 "_law_word" 1 F__law_word := ok__law_word (k := 1) A.T A.d__law_word ((fn__law_draw A).mono (by decide))
theorem fn__law_number (A : All K mg) : Fn P w K mg base 2 "_law_number" 1 F__law_number := ok__law_number (k := 1) A.T A.d__law_number ((fn__law_draw A).mono (by decide))
theorem fn__law_value (A : All K mg) : ∀ n : Nat, Fn P w K mg base (2 + n) "_law_value" 2 (F__law_value n)
  | 0 => okD0 A.d__law_value
  | n + 1 => ok__law_value (k := 2 + n) A.T A.d__law_value ((fn__law_draw A).mono (by omega)) ((fn__law_word A).mono (by omega)) ((fn__law_name A).mono (by omega)) (fn__law_value A n) ((fn__law_number A).mono (by omega))
theorem fn__law_rank (A : All K mg) : Fn P w K mg base 1 "_law_rank" 1 F_kind_of := ok__law_rank (k := 0) A.T A.d__law_rank 
theorem fn__law_parts (A : All K mg) : Fn P w K mg base 2 "_law_parts" 1 F__law_parts := ok__law_parts (k := 1) A.T A.d__law_parts ((fn__law_rank A).mono (by decide))
theorem fn__law_size (A : All K mg) : ∀ n : Nat, Fn P w K mg base (2 + n) "_law_size" 1 (F__law_size n)
  | 0 => okD0 A.d__law_size
  | n + 1 => ok__law_size (k := 2 + n) A.T A.d__law_size ((fn__law_parts A).mono (by omega)) ((fn__law_rank A).mono (by omega)) (fn__law_size A n)
theorem fn__law_sign (A : All K mg) : Fn P w K mg base 1 "_law_sign" 2 F__law_sign := ok__law_sign (k := 0) A.T A.d__law_sign 
theorem fn__law_before (A : All K mg) : ∀ n : Nat, Fn P w K mg base (5 + n) "_law_before" 2 (F__law_before n)
  | 0 => okD0 A.d__law_before
  | n + 1 => ok__law_before (k := 5 + n) A.T A.d__law_before ((fn__law_sign A).mono (by omega)) ((fn__law_parts A).mono (by omega)) ((fn__law_size A 3).mono (by omega)) ((fn__law_rank A).mono (by omega)) (fn__law_before A n)
theorem fn__law_whole (A : All K mg) : Fn P w K mg base 2 "_law_whole" 4 F__law_whole := ok__law_whole (k := 1) A.T A.d__law_whole ((fn__law_draw A).mono (by decide))
theorem fn_law (A : All K mg) {f : Addr} {fd : FuncData} (F : L2.Fun K "law" "law" s_law f fd) : FnOk P w K mg base (L2.CX P w) 10 f fd ["script"] (spM K 1 F_law_k03) := ok_law (k := 9) A.T F ((fn__law_digits A).mono (by decide)) ((fn__law_value A 3).mono (by decide)) ((fn__law_draw A).mono (by decide)) ((fn__law_whole A).mono (by decide)) ((fn_compare_values A 4).mono (by decide)) ((fn__law_before A 3).mono (by decide))
end
theorem dx_mk {K : PySem.W.Frag} {h : Heap} {mg : Str → Option Value} {x : Str} {st : Stmt} {ps : List Str} {f : Addr} {od an : Option Addr} {sl : Array (Option Value)} {oc kV doc pm cd ct : Value} (X : K.In h) (G : h.Ns mainGlobals mg)
    (a : PySem.W.nsIn K mainGlobals x = some (some (.ref f))) (l : K.lookup f = some ⟨oc, od, .func (PySem.W.fnOf x x (defArgs st) (defBody st) (defScope st) .none kV doc pm an cd ct), sl⟩) (c : PySem.W.codeIn K cd x = true) (k : PySem.W.keepIn K (.ref f) = true)
    (hb : ∀ (kV doc pm : Value) (an : Option Addr) (cdv ct : Value) (us : List Value), us.length = ps.length → bindArgs (PySem.W.fnOf x x (defArgs st) (defBody st) (defScope st) .none kV doc pm an cdv ct) ⟨us, []⟩ = pure (ps.zip us)) : Dx K mg x st ps :=
  ⟨f, _, fun_mk l c k, PySem.W.mg_of X G a, (fun_mk l c k).binds hb⟩
theorem all_mk {l : PySem.W.OpenLaw} {w : World} {K : PySem.W.Frag} {h : Heap} {mg : Str → Option Value} {fa : Addr} (X : K.In h) (G : h.Ns mainGlobals mg) (hfa : mg "law" = some (.ref fa))
    {f0 : Addr} {od0 an0 : Option Addr} {sl0 : Array (Option Value)} {oc0 kV0 dc0 pm0 cd0 ct0 : Value}
    {f1 : Addr} {od1 an1 : Option Addr} {sl1 : Array (Option Value)} {oc1 kV1 dc1 pm1 cd1 ct1 : Value}
    {f2 : Addr} {od2 an2 : Option Addr} {sl2 : Array (Option Value)} {oc2 kV2 dc2 pm2 cd2 ct2 : Value}
    {f3 : Addr} {od3 an3 : Option Addr} {sl3 : Array (Option Value)} {oc3 kV3 dc3 pm3 cd3 ct3 : Value}
    {f4 : Addr} {od4 an4 : Option Addr} {sl4 : Array (Option Value)} {oc4 kV4 dc4 pm4 cd4 ct4 : Value}
    {f5 : Addr} {od5 an5 : Option Addr} {sl5 : Array (Option Value)} {oc5 kV5 dc5 pm5 cd5 ct5 : Value}
    {f6 : Addr} {od6 an6 : Option Addr} {sl6 : Array (Option Value)} {oc6 kV6 dc6 pm6 cd6 ct6 : Value}
    {f7 : Addr} {od7 an7 : Option Addr} {sl7 : Array (Option Value)} {oc7 kV7 dc7 pm7 cd7 ct7 : Value}
    {f8 : Addr} {od8 an8 : Option Addr} {sl8 : Array (Option Value)} {oc8 kV8 dc8 pm8 cd8 ct8 : Value}
    {f9 : Addr} {od9 an9 : Option Addr} {sl9 : Array (Option Value)} {oc9 kV9 dc9 pm9 cd9 ct9 : Value}
    {f10 : Addr} {od10 an10 : Option Addr} {sl10 : Array (Option Value)} {oc10 kV10 dc10 pm10 cd10 ct10 : Value}
    {f11 : Addr} {od11 an11 : Option Addr} {sl11 : Array (Option Value)} {oc11 kV11 dc11 pm11 cd11 ct11 : Value}
    {f12 : Addr} {od12 an12 : Option Addr} {sl12 : Array (Option Value)} {oc12 kV12 dc12 pm12 cd12 ct12 : Value}
    {f13 : Addr} {od13 an13 : Option Addr} {sl13 : Array (Option Value)} {oc13 kV13 dc13 pm13 cd13 ct13 : Value}
    {f14 : Addr} {od14 an14 : Option Addr} {sl14 : Array (Option Value)} {oc14 kV14 dc14 pm14 cd14 ct14 : Value}
    {f15 : Addr} {od15 an15 : Option Addr} {sl15 : Array (Option Value)} {oc15 kV15 dc15 pm15 cd15 ct15 : Value}
    {f16 : Addr} {od16 an16 : Option Addr} {sl16 : Array (Option Value)} {oc16 kV16 dc16 pm16 cd16 ct16 : Value}
    {f17 : Addr} {od17 an17 : Option Addr} {sl17 : Array (Option Value)} {oc17 kV17 dc17 pm17 cd17 ct17 : Value}
    {f18 : Addr} {od18 an18 : Option Addr} {sl18 : Array (Option Value)} {oc18 kV18 dc18 pm18 cd18 ct18 : Value}
    {f19 : Addr} {od19 an19 : Option Addr} {sl19 : Array (Option Value)} {oc19 kV19 dc19 pm19 cd19 ct19 : Value}
    {f20 : Addr} {od20 an20 : Option Addr} {sl20 : Array (Option Value)} {oc20 kV20 dc20 pm20 cd20 ct20 : Value}
    {f21 : Addr} {od21 an21 : Option Addr} {sl21 : Array (Option Value)} {oc21 kV21 dc21 pm21 cd21 ct21 : Value}
    {f22 : Addr} {od22 an22 : Option Addr} {sl22 : Array (Option Value)} {oc22 kV22 dc22 pm22 cd22 ct22 : Value}
    {t_CHOICE : Tok}
    {t_INTEGER : Tok}
    {t_LIST : Tok}
    {t_RECORD : Tok}
    {t_TEXT : Tok}
    (a0 : PySem.W.nsIn K mainGlobals "kind_of" = some (some (.ref f0))) (l0 : K.lookup f0 = some ⟨oc0, od0, .func (PySem.W.fnOf "kind_of" "kind_of" (defArgs s_kind_of) (defBody s_kind_of) (defScope s_kind_of) .none kV0 dc0 pm0 an0 cd0 ct0), sl0⟩) (c0 : PySem.W.codeIn K cd0 "kind_of" = true) (k0 : PySem.W.keepIn K (.ref f0) = true)
    (a1 : PySem.W.nsIn K mainGlobals "sorted_fields" = some (some (.ref f1))) (l1 : K.lookup f1 = some ⟨oc1, od1, .func (PySem.W.fnOf "sorted_fields" "sorted_fields" (defArgs s_sorted_fields) (defBody s_sorted_fields) (defScope s_sorted_fields) .none kV1 dc1 pm1 an1 cd1 ct1), sl1⟩) (c1 : PySem.W.codeIn K cd1 "sorted_fields" = true) (k1 : PySem.W.keepIn K (.ref f1) = true)
    (a2 : PySem.W.nsIn K mainGlobals "_named_parts" = some (some (.ref f2))) (l2 : K.lookup f2 = some ⟨oc2, od2, .func (PySem.W.fnOf "_named_parts" "_named_parts" (defArgs s__named_parts) (defBody s__named_parts) (defScope s__named_parts) .none kV2 dc2 pm2 an2 cd2 ct2), sl2⟩) (c2 : PySem.W.codeIn K cd2 "_named_parts" = true) (k2 : PySem.W.keepIn K (.ref f2) = true)
    (a3 : PySem.W.nsIn K mainGlobals "parts_of" = some (some (.ref f3))) (l3 : K.lookup f3 = some ⟨oc3, od3, .func (PySem.W.fnOf "parts_of" "parts_of" (defArgs s_parts_of) (defBody s_parts_of) (defScope s_parts_of) .none kV3 dc3 pm3 an3 cd3 ct3), sl3⟩) (c3 : PySem.W.codeIn K cd3 "parts_of" = true) (k3 : PySem.W.keepIn K (.ref f3) = true)
    (a4 : PySem.W.nsIn K mainGlobals "_own_size" = some (some (.ref f4))) (l4 : K.lookup f4 = some ⟨oc4, od4, .func (PySem.W.fnOf "_own_size" "_own_size" (defArgs s__own_size) (defBody s__own_size) (defScope s__own_size) .none kV4 dc4 pm4 an4 cd4 ct4), sl4⟩) (c4 : PySem.W.codeIn K cd4 "_own_size" = true) (k4 : PySem.W.keepIn K (.ref f4) = true)
    (a5 : PySem.W.nsIn K mainGlobals "size_of" = some (some (.ref f5))) (l5 : K.lookup f5 = some ⟨oc5, od5, .func (PySem.W.fnOf "size_of" "size_of" (defArgs s_size_of) (defBody s_size_of) (defScope s_size_of) .none kV5 dc5 pm5 an5 cd5 ct5), sl5⟩) (c5 : PySem.W.codeIn K cd5 "size_of" = true) (k5 : PySem.W.keepIn K (.ref f5) = true)
    (a6 : PySem.W.nsIn K mainGlobals "_compare" = some (some (.ref f6))) (l6 : K.lookup f6 = some ⟨oc6, od6, .func (PySem.W.fnOf "_compare" "_compare" (defArgs s__compare) (defBody s__compare) (defScope s__compare) .none kV6 dc6 pm6 an6 cd6 ct6), sl6⟩) (c6 : PySem.W.codeIn K cd6 "_compare" = true) (k6 : PySem.W.keepIn K (.ref f6) = true)
    (a7 : PySem.W.nsIn K mainGlobals "_head" = some (some (.ref f7))) (l7 : K.lookup f7 = some ⟨oc7, od7, .func (PySem.W.fnOf "_head" "_head" (defArgs s__head) (defBody s__head) (defScope s__head) .none kV7 dc7 pm7 an7 cd7 ct7), sl7⟩) (c7 : PySem.W.codeIn K cd7 "_head" = true) (k7 : PySem.W.keepIn K (.ref f7) = true)
    (a8 : PySem.W.nsIn K mainGlobals "compare_values" = some (some (.ref f8))) (l8 : K.lookup f8 = some ⟨oc8, od8, .func (PySem.W.fnOf "compare_values" "compare_values" (defArgs s_compare_values) (defBody s_compare_values) (defScope s_compare_values) .none kV8 dc8 pm8 an8 cd8 ct8), sl8⟩) (c8 : PySem.W.codeIn K cd8 "compare_values" = true) (k8 : PySem.W.keepIn K (.ref f8) = true)
    (a9 : PySem.W.nsIn K mainGlobals "_law_cell" = some (some (.ref f9))) (l9 : K.lookup f9 = some ⟨oc9, od9, .func (PySem.W.fnOf "_law_cell" "_law_cell" (defArgs s__law_cell) (defBody s__law_cell) (defScope s__law_cell) .none kV9 dc9 pm9 an9 cd9 ct9), sl9⟩) (c9 : PySem.W.codeIn K cd9 "_law_cell" = true) (k9 : PySem.W.keepIn K (.ref f9) = true)
    (a10 : PySem.W.nsIn K mainGlobals "_law_digits" = some (some (.ref f10))) (l10 : K.lookup f10 = some ⟨oc10, od10, .func (PySem.W.fnOf "_law_digits" "_law_digits" (defArgs s__law_digits) (defBody s__law_digits) (defScope s__law_digits) .none kV10 dc10 pm10 an10 cd10 ct10), sl10⟩) (c10 : PySem.W.codeIn K cd10 "_law_digits" = true) (k10 : PySem.W.keepIn K (.ref f10) = true)
    (a11 : PySem.W.nsIn K mainGlobals "_law_draw" = some (some (.ref f11))) (l11 : K.lookup f11 = some ⟨oc11, od11, .func (PySem.W.fnOf "_law_draw" "_law_draw" (defArgs s__law_draw) (defBody s__law_draw) (defScope s__law_draw) .none kV11 dc11 pm11 an11 cd11 ct11), sl11⟩) (c11 : PySem.W.codeIn K cd11 "_law_draw" = true) (k11 : PySem.W.keepIn K (.ref f11) = true)
    (a12 : PySem.W.nsIn K mainGlobals "_law_name" = some (some (.ref f12))) (l12 : K.lookup f12 = some ⟨oc12, od12, .func (PySem.W.fnOf "_law_name" "_law_name" (defArgs s__law_name) (defBody s__law_name) (defScope s__law_name) .none kV12 dc12 pm12 an12 cd12 ct12), sl12⟩) (c12 : PySem.W.codeIn K cd12 "_law_name" = true) (k12 : PySem.W.keepIn K (.ref f12) = true)
    (a13 : PySem.W.nsIn K mainGlobals "_law_word" = some (some (.ref f13))) (l13 : K.lookup f13 = some ⟨oc13, od13, .func (PySem.W.fnOf "_law_word" "_law_word" (defArgs s__law_word) (defBody s__law_word) (defScope s__law_word) .none kV13 dc13 pm13 an13 cd13 ct13), sl13⟩) (c13 : PySem.W.codeIn K cd13 "_law_word" = true) (k13 : PySem.W.keepIn K (.ref f13) = true)
    (a14 : PySem.W.nsIn K mainGlobals "_law_number" = some (some (.ref f14))) (l14 : K.lookup f14 = some ⟨oc14, od14, .func (PySem.W.fnOf "_law_number" "_law_number" (defArgs s__law_number) (defBody s__law_number) (defScope s__law_number) .none kV14 dc14 pm14 an14 cd14 ct14), sl14⟩) (c14 : PySem.W.codeIn K cd14 "_law_number" = true) (k14 : PySem.W.keepIn K (.ref f14) = true)
    (a15 : PySem.W.nsIn K mainGlobals "_law_value" = some (some (.ref f15))) (l15 : K.lookup f15 = some ⟨oc15, od15, .func (PySem.W.fnOf "_law_value" "_law_value" (defArgs s__law_value) (defBody s__law_value) (defScope s__law_value) .none kV15 dc15 pm15 an15 cd15 ct15), sl15⟩) (c15 : PySem.W.codeIn K cd15 "_law_value" = true) (k15 : PySem.W.keepIn K (.ref f15) = true)
    (a16 : PySem.W.nsIn K mainGlobals "_law_rank" = some (some (.ref f16))) (l16 : K.lookup f16 = some ⟨oc16, od16, .func (PySem.W.fnOf "_law_rank" "_law_rank" (defArgs s__law_rank) (defBody s__law_rank) (defScope s__law_rank) .none kV16 dc16 pm16 an16 cd16 ct16), sl16⟩) (c16 : PySem.W.codeIn K cd16 "_law_rank" = true) (k16 : PySem.W.keepIn K (.ref f16) = true)
    (a17 : PySem.W.nsIn K mainGlobals "_law_parts" = some (some (.ref f17))) (l17 : K.lookup f17 = some ⟨oc17, od17, .func (PySem.W.fnOf "_law_parts" "_law_parts" (defArgs s__law_parts) (defBody s__law_parts) (defScope s__law_parts) .none kV17 dc17 pm17 an17 cd17 ct17), sl17⟩) (c17 : PySem.W.codeIn K cd17 "_law_parts" = true) (k17 : PySem.W.keepIn K (.ref f17) = true)
    (a18 : PySem.W.nsIn K mainGlobals "_law_size" = some (some (.ref f18))) (l18 : K.lookup f18 = some ⟨oc18, od18, .func (PySem.W.fnOf "_law_size" "_law_size" (defArgs s__law_size) (defBody s__law_size) (defScope s__law_size) .none kV18 dc18 pm18 an18 cd18 ct18), sl18⟩) (c18 : PySem.W.codeIn K cd18 "_law_size" = true) (k18 : PySem.W.keepIn K (.ref f18) = true)
    (a19 : PySem.W.nsIn K mainGlobals "_law_sign" = some (some (.ref f19))) (l19 : K.lookup f19 = some ⟨oc19, od19, .func (PySem.W.fnOf "_law_sign" "_law_sign" (defArgs s__law_sign) (defBody s__law_sign) (defScope s__law_sign) .none kV19 dc19 pm19 an19 cd19 ct19), sl19⟩) (c19 : PySem.W.codeIn K cd19 "_law_sign" = true) (k19 : PySem.W.keepIn K (.ref f19) = true)
    (a20 : PySem.W.nsIn K mainGlobals "_law_before" = some (some (.ref f20))) (l20 : K.lookup f20 = some ⟨oc20, od20, .func (PySem.W.fnOf "_law_before" "_law_before" (defArgs s__law_before) (defBody s__law_before) (defScope s__law_before) .none kV20 dc20 pm20 an20 cd20 ct20), sl20⟩) (c20 : PySem.W.codeIn K cd20 "_law_before" = true) (k20 : PySem.W.keepIn K (.ref f20) = true)
    (a21 : PySem.W.nsIn K mainGlobals "_law_whole" = some (some (.ref f21))) (l21 : K.lookup f21 = some ⟨oc21, od21, .func (PySem.W.fnOf "_law_whole" "_law_whole" (defArgs s__law_whole) (defBody s__law_whole) (defScope s__law_whole) .none kV21 dc21 pm21 an21 cd21 ct21), sl21⟩) (c21 : PySem.W.codeIn K cd21 "_law_whole" = true) (k21 : PySem.W.keepIn K (.ref f21) = true)
    (a22 : PySem.W.nsIn K mainGlobals "law" = some (some (.ref f22))) (l22 : K.lookup f22 = some ⟨oc22, od22, .func (PySem.W.fnOf "law" "law" (defArgs s_law) (defBody s_law) (defScope s_law) .none kV22 dc22 pm22 an22 cd22 ct22), sl22⟩) (c22 : PySem.W.codeIn K cd22 "law" = true) (k22 : PySem.W.keepIn K (.ref f22) = true)
    (g_CHOICE : PySem.W.nsIn K mainGlobals "CHOICE" = some (some (.int 4 t_CHOICE)))
    (g_INTEGER : PySem.W.nsIn K mainGlobals "INTEGER" = some (some (.int 0 t_INTEGER)))
    (g_LIST : PySem.W.nsIn K mainGlobals "LIST" = some (some (.int 2 t_LIST)))
    (g_RECORD : PySem.W.nsIn K mainGlobals "RECORD" = some (some (.int 3 t_RECORD)))
    (g_TEXT : PySem.W.nsIn K mainGlobals "TEXT" = some (some (.int 1 t_TEXT)))
    (g_abs : PySem.W.nsIn K mainGlobals "abs" = some none)
    (g_dict : PySem.W.nsIn K mainGlobals "dict" = some none)
    (g_int : PySem.W.nsIn K mainGlobals "int" = some none)
    (g_isinstance : PySem.W.nsIn K mainGlobals "isinstance" = some none)
    (g_len : PySem.W.nsIn K mainGlobals "len" = some none)
    (g_list : PySem.W.nsIn K mainGlobals "list" = some none)
    (g_min : PySem.W.nsIn K mainGlobals "min" = some none)
    (g_range : PySem.W.nsIn K mainGlobals "range" = some none)
    (g_sorted : PySem.W.nsIn K mainGlobals "sorted" = some none)
    (g_str : PySem.W.nsIn K mainGlobals "str" = some none)
    (g_zip : PySem.W.nsIn K mainGlobals "zip" = some none) :
    ∃ fd : FuncData, (∀ (s : Shared) (v : Value), BindsTo s fd ⟨[v], []⟩ [("script", v)]) ∧ ∀ base : Heap, K.In base → base.Ns mainGlobals mg → FnOk l.prog w K mg base (L2.CX l.prog w) 10 fa fd ["script"] (spM K 1 F_law_k03) := by
  have e := hfa.symm.trans (PySem.W.mg_of X G a22)
  cases e
  have A : All K mg := ⟨⟨⟨_, PySem.W.mg_of X G g_CHOICE⟩, ⟨_, PySem.W.mg_of X G g_INTEGER⟩, ⟨_, PySem.W.mg_of X G g_LIST⟩, ⟨_, PySem.W.mg_of X G g_RECORD⟩, ⟨_, PySem.W.mg_of X G g_TEXT⟩, PySem.W.mg_none_of X G g_abs, PySem.W.mg_none_of X G g_dict, PySem.W.mg_none_of X G g_int, PySem.W.mg_none_of X G g_isinstance, PySem.W.mg_none_of X G g_len, PySem.W.mg_none_of X G g_list, PySem.W.mg_none_of X G g_min, PySem.W.mg_none_of X G g_range, PySem.W.mg_none_of X G g_sorted, PySem.W.mg_none_of X G g_str, PySem.W.mg_none_of X G g_zip⟩, dx_mk X G a0 l0 c0 k0 (fun _ _ _ _ _ _ us hl => match us, hl with | [_], _ => rfl),
    dx_mk X G a1 l1 c1 k1 (fun _ _ _ _ _ _ us hl => match us, hl with | [_], _ => rfl),
    dx_mk X G a2 l2 c2 k2 (fun _ _ _ _ _ _ us hl => match us, hl with | [_], _ => rfl),
    dx_mk X G a3 l3 c3 k3 (fun _ _ _ _ _ _ us hl => match us, hl with | [_], _ => rfl),
    dx_mk X G a4 l4 c4 k4 (fun _ _ _ _ _ _ us hl => match us, hl with | [_], _ => rfl),
    dx_mk X G a5 l5 c5 k5 (fun _ _ _ _ _ _ us hl => match us, hl with | [_], _ => rfl),
    dx_mk X G a6 l6 c6 k6 (fun _ _ _ _ _ _ us hl => match us, hl with | [_, _], _ => rfl),
    dx_mk X G a7 l7 c7 k7 (fun _ _ _ _ _ _ us hl => match us, hl with | [_], _ => rfl),
    dx_mk X G a8 l8 c8 k8 (fun _ _ _ _ _ _ us hl => match us, hl with | [_, _], _ => rfl),
    dx_mk X G a9 l9 c9 k9 (fun _ _ _ _ _ _ us hl => match us, hl with | [_, _], _ => rfl),
    dx_mk X G a10 l10 c10 k10 (fun _ _ _ _ _ _ us hl => match us, hl with | [_, _, _], _ => rfl),
    dx_mk X G a11 l11 c11 k11 (fun _ _ _ _ _ _ us hl => match us, hl with | [_, _], _ => rfl),
    dx_mk X G a12 l12 c12 k12 (fun _ _ _ _ _ _ us hl => match us, hl with | [_], _ => rfl),
    dx_mk X G a13 l13 c13 k13 (fun _ _ _ _ _ _ us hl => match us, hl with | [_], _ => rfl),
    dx_mk X G a14 l14 c14 k14 (fun _ _ _ _ _ _ us hl => match us, hl with | [_], _ => rfl),
    dx_mk X G a15 l15 c15 k15 (fun _ _ _ _ _ _ us hl => match us, hl with | [_, _], _ => rfl),
    dx_mk X G a16 l16 c16 k16 (fun _ _ _ _ _ _ us hl => match us, hl with | [_], _ => rfl),
    dx_mk X G a17 l17 c17 k17 (fun _ _ _ _ _ _ us hl => match us, hl with | [_], _ => rfl),
    dx_mk X G a18 l18 c18 k18 (fun _ _ _ _ _ _ us hl => match us, hl with | [_], _ => rfl),
    dx_mk X G a19 l19 c19 k19 (fun _ _ _ _ _ _ us hl => match us, hl with | [_, _], _ => rfl),
    dx_mk X G a20 l20 c20 k20 (fun _ _ _ _ _ _ us hl => match us, hl with | [_, _], _ => rfl),
    dx_mk X G a21 l21 c21 k21 (fun _ _ _ _ _ _ us hl => match us, hl with | [_, _, _, _], _ => rfl)⟩
  exact ⟨_, fun s v => .of_eq rfl, fun base _ _ => fn_law A (fun_mk (st := s_law) l22 c22 k22)⟩
theorem walk {l : PySem.W.OpenLaw} {q : Program} {loose : List Str} {XP : (Str → Option Value) → Heap → Prop} {YP : World → Heap → Prop} {d : DefRec} {K : Params → PySem.W.Frag} (hn : l.most = some 63) (hdf : d.params.defaults = [])
    (hY : ∀ (w : World) (h : Heap), YP w h → (K w.params).In h)
    (F : ∀ (w : World) (mg : Str → Option Value) (fa : Addr) (h : Heap), (K w.params).In h → h.Ns mainGlobals mg → mg d.name = some (.ref fa) →
      ∃ fd : FuncData, (∀ (s : Shared) (u : Value), BindsTo s fd ⟨[u], []⟩ [("script", u)]) ∧ ∀ base : Heap, (K w.params).In base → base.Ns mainGlobals mg → FnOk l.prog w (K w.params) mg base (L2.CX l.prog w) 10 fa fd ["script"] (spM (K w.params) 1 F_law_k03))
    (hlaw : ∀ ns : List Int, ns.length ≤ 63 → ∃ μ, F_law_k03 [.d (.kl ns)] [] = some (.ok (.d (.bl true)) μ)) :
    PySem.W.WalkO q loose XP YP l.row.toRowW d [] (fun f vs => PySem.call f vs) :=
  L2.walk_of (n := 63) (k := 10) (x := "script") (CX := fun w => L2.CX l.prog w) (sp := fun w => spM (K w.params) 1 F_law_k03) hn (by decide) hdf ⟨rfl, by decide, by decide⟩ hY F (fun w H a ns hl _ hS => sp_law hlaw hl hS) fun w H s e s' z => by
    obtain ⟨_, _, _, _, _, _, _, _, _, _, _, _, z⟩ := z
    exact z.elim
end Fm

open PySem PySem.W PyProof.Rows in
set_option maxRecDepth 100000 in
set_option maxHeartbeats 0 in
theorem PySem.Challenge.cw_formatfit_k03_lesser_parts_make_less_holds : PySem.Challenge.rw_formatfit_k03_lesser_parts_make_less.Holds := by
  w_on; o_law; k_head; (case hw => w_witness2)
  k_fill
  refine Fm.walk (l := PySem.Challenge.rw_formatfit_k03_lesser_parts_make_less) rfl rfl (fun w h Y => PySem.W.kIn_of Y) ?F Fm.law_k03_true
  case F =>
    intro w mg fa h KX G hmg
    refine' Fm.all_mk KX G hmg ?a0 ?l0 ?c0 ?k0 ?a1 ?l1 ?c1 ?k1 ?a2 ?l2 ?c2 ?k2 ?a3 ?l3 ?c3 ?k3 ?a4 ?l4 ?c4 ?k4 ?a5 ?l5 ?c5 ?k5 ?a6 ?l6 ?c6 ?k6 ?a7 ?l7 ?c7 ?k7 ?a8 ?l8 ?c8 ?k8 ?a9 ?l9 ?c9 ?k9 ?a10 ?l10 ?c10 ?k10 ?a11 ?l11 ?c11 ?k11 ?a12 ?l12 ?c12 ?k12 ?a13 ?l13 ?c13 ?k13 ?a14 ?l14 ?c14 ?k14 ?a15 ?l15 ?c15 ?k15 ?a16 ?l16 ?c16 ?k16 ?a17 ?l17 ?c17 ?k17 ?a18 ?l18 ?c18 ?k18 ?a19 ?l19 ?c19 ?k19 ?a20 ?l20 ?c20 ?k20 ?a21 ?l21 ?c21 ?k21 ?a22 ?l22 ?c22 ?k22 ?g_CHOICE ?g_INTEGER ?g_LIST ?g_RECORD ?g_TEXT ?g_abs ?g_dict ?g_int ?g_isinstance ?g_len ?g_list ?g_min ?g_range ?g_sorted ?g_str ?g_zip
    (case a0 => k_is)
    (case l0 => k_is)
    (case c0 => k_is)
    (case k0 => k_is)
    (case a1 => k_is)
    (case l1 => k_is)
    (case c1 => k_is)
    (case k1 => k_is)
    (case a2 => k_is)
    (case l2 => k_is)
    (case c2 => k_is)
    (case k2 => k_is)
    (case a3 => k_is)
    (case l3 => k_is)
    (case c3 => k_is)
    (case k3 => k_is)
    (case a4 => k_is)
    (case l4 => k_is)
    (case c4 => k_is)
    (case k4 => k_is)
    (case a5 => k_is)
    (case l5 => k_is)
    (case c5 => k_is)
    (case k5 => k_is)
    (case a6 => k_is)
    (case l6 => k_is)
    (case c6 => k_is)
    (case k6 => k_is)
    (case a7 => k_is)
    (case l7 => k_is)
    (case c7 => k_is)
    (case k7 => k_is)
    (case a8 => k_is)
    (case l8 => k_is)
    (case c8 => k_is)
    (case k8 => k_is)
    (case a9 => k_is)
    (case l9 => k_is)
    (case c9 => k_is)
    (case k9 => k_is)
    (case a10 => k_is)
    (case l10 => k_is)
    (case c10 => k_is)
    (case k10 => k_is)
    (case a11 => k_is)
    (case l11 => k_is)
    (case c11 => k_is)
    (case k11 => k_is)
    (case a12 => k_is)
    (case l12 => k_is)
    (case c12 => k_is)
    (case k12 => k_is)
    (case a13 => k_is)
    (case l13 => k_is)
    (case c13 => k_is)
    (case k13 => k_is)
    (case a14 => k_is)
    (case l14 => k_is)
    (case c14 => k_is)
    (case k14 => k_is)
    (case a15 => k_is)
    (case l15 => k_is)
    (case c15 => k_is)
    (case k15 => k_is)
    (case a16 => k_is)
    (case l16 => k_is)
    (case c16 => k_is)
    (case k16 => k_is)
    (case a17 => k_is)
    (case l17 => k_is)
    (case c17 => k_is)
    (case k17 => k_is)
    (case a18 => k_is)
    (case l18 => k_is)
    (case c18 => k_is)
    (case k18 => k_is)
    (case a19 => k_is)
    (case l19 => k_is)
    (case c19 => k_is)
    (case k19 => k_is)
    (case a20 => k_is)
    (case l20 => k_is)
    (case c20 => k_is)
    (case k20 => k_is)
    (case a21 => k_is)
    (case l21 => k_is)
    (case c21 => k_is)
    (case k21 => k_is)
    (case a22 => k_is)
    (case l22 => k_is)
    (case c22 => k_is)
    (case k22 => k_is)
    (case g_CHOICE => k_is)
    (case g_INTEGER => k_is)
    (case g_LIST => k_is)
    (case g_RECORD => k_is)
    (case g_TEXT => k_is)
    (case g_abs => k_is)
    (case g_dict => k_is)
    (case g_int => k_is)
    (case g_isinstance => k_is)
    (case g_len => k_is)
    (case g_list => k_is)
    (case g_min => k_is)
    (case g_range => k_is)
    (case g_sorted => k_is)
    (case g_str => k_is)
    (case g_zip => k_is)
