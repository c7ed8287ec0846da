import PyProof.Rows.All
import Wide.All
import OpenK.AllK
import Wide.FinOn
import HandS.Text
import HandS.ForMost
import HandS.ForSpec
import HandS.CallSlots
import HandS.Wide
import HandS.Gcd
import HandS.EndBits
import HandS.TupAny
import HandS.Flow
import HandS.HotCalls
import HandS.IsInst
import HandS.StrMore
import HandS.FStr
import PyProof.AutoSeq1
import HandS.Comp
import HandS.SortInts
import HandS.WideBits
import HandS.ExcInit
import HandS.ExcIs
import HandS.ExcField
import HandS.SetFor
import KE.KExcIs
import PyProof.StrBlock2
import HandS.Codes
import KE.IntTextLaws
import PySem.Challenge.RW_foldsheet_k09_tokens
set_option Elab.async false
set_option linter.all false
set_option maxRecDepth 100000
/-! A small functional reading of Python over the layer: data without addresses, a store of changeable things, and for each construct its meaning as a Lean function. -/
namespace Py
open PySem PySem.Spec PyProof.Rows L2

/-- a value without addresses; rol: a list that nobody changes; frz: a list that is only read (the script); obj n: the n-th thing of the store -/
inductive D where
  | non | bl (b : Bool) | int (i : Int) | str (x : Str) | tup (ds : List D) | rol (ds : List D) | frz (ds : List D) | obj (n : Nat) | hot (C : Str) (ks : List Str) (ds : List D)
/-- what can change -/
inductive Ob where
  | lst (ds : List D)
  | dct (kvs : List (Key × D))
  | ins (C : Str) (fs : List (Str × D))
abbrev Store := List Ob
abbrev Env := List (Option D)
/-- an exception: its class by name, its own fields -/
structure Xc where
  cls : Str
  fs : List (Str × D)
inductive Res (α : Type) where
  | ok (a : α) (S : Store)
  | exc (x : Xc) (S : Store)
  | stuck
abbrev M (α : Type) := Store → Res α
def giv {α : Type} (a : α) (S : Store) : Res α := .ok a S
def fail {α : Type} (_ : Store) : Res α := .stuck
def bnd {α β : Type} (m : M α) (k : α → M β) (S : Store) : Res β := match m S with
  | .ok a S' => k a S'
  | .exc x S' => .exc x S'
  | .stuck => .stuck
/-- a new changeable thing -/
def mk (o : Ob) (S : Store) : Res D := .ok (.obj S.length) (S ++ [o])
/-- a list: to be changed later (o), or not -/
def mkL (o : Bool) (ds : List D) : M D := if o then mk (.lst ds) else giv (.rol ds)
abbrev MF := List D → M D
abbrev ME := Env → M D
abbrev MT := Env → M Bool
abbrev MA := Env → M (List D)
abbrev MG := D → Env → M Env
/-- how a statement ends -/
inductive SR where
  | nx (env : Env) (S : Store) | bk (env : Env) (S : Store) | ct (env : Env) (S : Store) | rt (d : D) (S : Store) | exc (x : Xc) (env : Env) (S : Store) | stuck
abbrev MS := Env → Store → SR

/-- the exception that is handled: where, its object, its class by name, where its own dict is -/
structure Hot where
  a : Addr
  oe : Obj
  C : Str
  d : Option Addr
/-- addresses that are kept out of sight, and the exception that is handled -/
structure Zt where
  zs : List Addr
  hot : Option Hot
instance : Membership Addr Zt := ⟨fun z a => a ∈ z.zs⟩
def Zt.push (z : Zt) (a : Addr) : Zt := ⟨a :: z.zs, z.hot⟩
theorem Zt.mem_push {z : Zt} {a b : Addr} : b ∈ z.push a ↔ b = a ∨ b ∈ z := List.mem_cons
theorem Zt.mem_of {z : Zt} {a b : Addr} (h : b ∈ z) : b ∈ z.push a := Zt.mem_push.mpr (.inr h)
/-- the own fields of the handled exception -/
def OwnD (H : Hp) (d : Option Addr) (gs : List (Str × V)) : Prop := match d with
  | none => gs = []
  | some dd => H dd = some (.xd gs)
/-! ### what stands for what -/
section
variable (K : PySem.W.Frag) (ρ : List Addr) (Z : Zt) (H : Hp)
/-- a list that nobody changes -/
def SqR (a : Addr) (xs : List V) : Prop := H a = some (.lst xs) ∧ a ∉ ρ ∧ a ∉ Z
/-- a list that is only read: frozen, or written in the module -/
def SqF (a : Addr) (xs : List V) : Prop :=
  (∃ o, H a = some (.frz o (.lst xs))) ∨
    ∃ (o : Obj) (its : Array Value) (n : Nat), K.lookup a = some o ∧ o.cls = .type "list" ∧ o.dict = none ∧ o.data = .seq its n ∧ its.size ≤ sizeLine ∧ Vals xs its.toList
mutual
def RV : D → V → Prop
  | .non, v => v = .non
  | .bl b, v => v = .bl b
  | .int i, v => v = .int i
  | .str x, v => v = .str x
  | .tup ds, v => ∃ a xs, v = .ref a ∧ SqT K H a xs ∧ RVs ds xs
  | .rol ds, v => ∃ a xs, v = .ref a ∧ SqR ρ Z H a xs ∧ RVs ds xs
  | .frz ds, v => ∃ a xs, v = .ref a ∧ SqF K H a xs ∧ RVs ds xs
  | .obj n, v => ∃ a, ρ[n]? = some a ∧ v = .ref a
  | .hot C ks ds, v => ∃ (h : Hot) (gs : List (Str × V)), Z.hot = some h ∧ v = .ref h.a ∧ C = h.C ∧ OwnD H h.d gs ∧ gs.map (·.1) = ks ∧ RVs ds (gs.map (·.2))
def RVs : List D → List V → Prop
  | [], xs => xs = []
  | d :: ds, xs => ∃ x r, xs = x :: r ∧ RV d x ∧ RVs ds r
end
/-- fields by name, keys with values -/
def RFs {κ : Type} (fs : List (κ × D)) (gs : List (κ × V)) : Prop := fs.map (·.1) = gs.map (·.1) ∧ RVs K ρ Z H (fs.map (·.2)) (gs.map (·.2))
def RO (mg : Str → Option Value) (a : Addr) : Ob → Prop
  | .lst ds => ∃ xs, H a = some (.lst xs) ∧ RVs K ρ Z H ds xs
  | .dct kvs => ∃ gs, H a = some (.dK gs) ∧ RFs K ρ Z H kvs gs
  | .ins C fs => ∃ Ca dx gs, mg C = some (.ref Ca) ∧ H a = some (.ins Ca dx gs) ∧ RFs K ρ Z H fs gs
structure RS (mg : Str → Option Value) (S : Store) : Prop where
  len : ρ.length = S.length
  inj : ∀ (n m : Nat) (a : Addr), ρ[n]? = some a → ρ[m]? = some a → n = m
  obj : ∀ (n : Nat) (a : Addr) (o : Ob), ρ[n]? = some a → S[n]? = some o → RO K ρ Z H mg a o
  hid : ∀ a ∈ Z, a ∉ ρ ∧ H a ≠ none
structure RE (env : Env) (σ : L2.St) : Prop where
  len : env.length = σ.length
  val : ∀ (i : Nat) (d : D), env[i]? = some (some d) → ∃ v, σ[i]? = some (some v) ∧ RV K ρ Z H d v
/-- an exception's class and own dict -/
def RX (mg : Str → Option Value) (x : Xc) (c : Value) (o : Option Addr) : Prop :=
  ∃ C, mg x.cls = some (.ref C) ∧ c = .ref C ∧ match o with
    | none => x.fs = []
    | some d => ∃ gs, H d = some (.xd gs) ∧ RFs K ρ Z H x.fs gs
end
theorem SqF.seq {K : PySem.W.Frag} {H : Hp} {a : Addr} {xs : List V} (h : SqF K H a xs) : SqL K H a xs := by
  rcases h with h | h
  · exact .inl (.inr h)
  · exact .inr h
/-- later -/
structure Ext (Z : Zt) (ρ : List Addr) (H : Hp) (ρ' : List Addr) (H' : Hp) : Prop where
  pre : ∀ (n : Nat) (a : Addr), ρ[n]? = some a → ρ'[n]? = some a
  tup : ∀ a xs, H a = some (.tup xs) → H' a = some (.tup xs)
  frz : ∀ a o u, H a = some (.frz o u) → H' a = some (.frz o u)
  lst : ∀ a xs, H a = some (.lst xs) → a ∉ ρ → a ∉ Z → H' a = some (.lst xs) ∧ a ∉ ρ'
  hid : ∀ a ∈ Z, H' a = H a
  xds : ∀ a gs, H a = some (.xd gs) → H' a = some (.xd gs)
section
variable {K : PySem.W.Frag} {mg : Str → Option Value} {ρ ρ' ρ1 ρ2 : List Addr} {Z : Zt} {H H' H1 H2 : Hp}
theorem Ext.refl : Ext Z ρ H ρ H := ⟨fun _ _ h => h, fun _ _ h => h, fun _ _ _ h => h, fun _ _ h n _ => ⟨h, n⟩, fun _ _ => rfl, fun _ _ h => h⟩
theorem Ext.trans (a : Ext Z ρ H ρ1 H1) (b : Ext Z ρ1 H1 ρ2 H2) : Ext Z ρ H ρ2 H2 :=
  ⟨fun n x h => b.pre n x (a.pre n x h), fun n x h => b.tup n x (a.tup n x h), fun n x y h => b.frz n x y (a.frz n x y h), fun n x h q z => (a.lst n x h q z).elim fun u v => b.lst n x u v z, fun x h => (b.hid x h).trans (a.hid x h), fun x y h => b.xds x y (a.xds x y h)⟩
theorem Ext.sqt (e : Ext Z ρ H ρ' H') {a : Addr} {xs : List V} (h : SqT K H a xs) : SqT K H' a xs := by
  rcases h with (h | ⟨o, h⟩) | h
  · exact .inl (.inl (e.tup _ _ h))
  · exact .inl (.inr ⟨o, e.frz _ _ _ h⟩)
  · exact .inr h
theorem Ext.sqf (e : Ext Z ρ H ρ' H') {a : Addr} {xs : List V} (h : SqF K H a xs) : SqF K H' a xs := by
  rcases h with ⟨o, h⟩ | h
  · exact .inl ⟨o, e.frz _ _ _ h⟩
  · exact .inr h
theorem Ext.sqr (e : Ext Z ρ H ρ' H') {a : Addr} {xs : List V} (h : SqR ρ Z H a xs) : SqR ρ' Z H' a xs :=
  let ⟨u, v⟩ := e.lst a xs h.1 h.2.1 h.2.2
  ⟨u, v, h.2.2⟩
theorem RV.non {v : V} : RV K ρ Z H .non v ↔ v = .non := by unfold RV; exact Iff.rfl
theorem RV.bl {b : Bool} {v : V} : RV K ρ Z H (.bl b) v ↔ v = .bl b := by unfold RV; exact Iff.rfl
theorem RV.int {i : Int} {v : V} : RV K ρ Z H (.int i) v ↔ v = .int i := by unfold RV; exact Iff.rfl
theorem RV.str {x : Str} {v : V} : RV K ρ Z H (.str x) v ↔ v = .str x := by unfold RV; exact Iff.rfl
theorem RV.tup {ds : List D} {v : V} : RV K ρ Z H (.tup ds) v ↔ ∃ a xs, v = .ref a ∧ SqT K H a xs ∧ RVs K ρ Z H ds xs := by rw [RV]
theorem RV.rol {ds : List D} {v : V} : RV K ρ Z H (.rol ds) v ↔ ∃ a xs, v = .ref a ∧ SqR ρ Z H a xs ∧ RVs K ρ Z H ds xs := by rw [RV]
theorem RV.frz {ds : List D} {v : V} : RV K ρ Z H (.frz ds) v ↔ ∃ a xs, v = .ref a ∧ SqF K H a xs ∧ RVs K ρ Z H ds xs := by rw [RV]
theorem RV.obj {n : Nat} {v : V} : RV K ρ Z H (.obj n) v ↔ ∃ a, ρ[n]? = some a ∧ v = .ref a := by rw [RV]
theorem RV.hot {C : Str} {ks : List Str} {ds : List D} {v : V} : RV K ρ Z H (.hot C ks ds) v ↔ ∃ (h : Hot) (gs : List (Str × V)), Z.hot = some h ∧ v = .ref h.a ∧ C = h.C ∧ OwnD H h.d gs ∧ gs.map (·.1) = ks ∧ RVs K ρ Z H ds (gs.map (·.2)) := by rw [RV]
theorem RVs.nil {vs : List V} : RVs K ρ Z H [] vs ↔ vs = [] := by rw [RVs]
theorem RVs.cons {d : D} {ds : List D} {vs : List V} : RVs K ρ Z H (d :: ds) vs ↔ ∃ x r, vs = x :: r ∧ RV K ρ Z H d x ∧ RVs K ρ Z H ds r := by rw [RVs]
/-- from one heap to another, by what the three kinds of rows need -/
structure Cpy (K : PySem.W.Frag) (ρ : List Addr) (Z : Zt) (H : Hp) (ρ' : List Addr) (Z' : Zt) (H' : Hp) : Prop where
  pre : ∀ (n : Nat) (a : Addr), ρ[n]? = some a → ρ'[n]? = some a
  sqt : ∀ a xs, SqT K H a xs → SqT K H' a xs
  sqr : ∀ a xs, SqR ρ Z H a xs → SqR ρ' Z' H' a xs
  sqf : ∀ a xs, SqF K H a xs → SqF K H' a xs
  hot : ∀ h, Z.hot = some h → Z'.hot = some h
  xds : ∀ a gs, H a = some (.xd gs) → H' a = some (.xd gs)
theorem OwnD.cpy {d : Option Addr} {gs : List (Str × V)} (k : ∀ a gs, H a = some (.xd gs) → H' a = some (.xd gs)) (h : OwnD H d gs) : OwnD H' d gs := by
  cases d with
  | none => exact h
  | some dd => exact k dd gs h
theorem Ext.cpy (e : Ext Z ρ H ρ' H') : Cpy K ρ Z H ρ' Z H' := ⟨e.pre, fun _ _ => e.sqt, fun _ _ => e.sqr, fun _ _ => e.sqf, fun _ h => h, e.xds⟩
section
variable {Z' : Zt}
mutual
theorem RV.cpy (e : Cpy K ρ Z H ρ' Z' H') : ∀ {d : D} {v : V}, RV K ρ Z H d v → RV K ρ' Z' H' d v
  | .non, _, h => by unfold RV at h ⊢; exact h
  | .bl _, _, h => by unfold RV at h ⊢; exact h
  | .int _, _, h => by unfold RV at h ⊢; exact h
  | .str _, _, h => by unfold RV at h ⊢; exact h
  | .tup ds, _, h => by
    unfold RV at h ⊢
    obtain ⟨a, xs, h1, h2, h3⟩ := h
    exact ⟨a, xs, h1, e.sqt _ _ h2, RVs.cpy e h3⟩
  | .rol ds, _, h => by
    unfold RV at h ⊢
    obtain ⟨a, xs, h1, h2, h3⟩ := h
    exact ⟨a, xs, h1, e.sqr _ _ h2, RVs.cpy e h3⟩
  | .frz ds, _, h => by
    unfold RV at h ⊢
    obtain ⟨a, xs, h1, h2, h3⟩ := h
    exact ⟨a, xs, h1, e.sqf _ _ h2, RVs.cpy e h3⟩
  | .obj n, _, h => by
    unfold RV at h ⊢
    obtain ⟨a, h1, h2⟩ := h
    exact ⟨a, e.pre _ _ h1, h2⟩
  | .hot C ks ds, _, h => by
    unfold RV at h ⊢
    obtain ⟨h, gs, h1, h2, h3, h4, h5, h6⟩ := h
    exact ⟨h, gs, e.hot _ h1, h2, h3, h4.cpy e.xds, h5, RVs.cpy e h6⟩
theorem RVs.cpy (e : Cpy K ρ Z H ρ' Z' H') : ∀ {ds : List D} {vs : List V}, RVs K ρ Z H ds vs → RVs K ρ' Z' H' ds vs
  | [], _, h => by unfold RVs at h ⊢; exact h
  | d :: ds, _, h => by
    unfold RVs at h ⊢
    obtain ⟨x, r, h1, h2, h3⟩ := h
    exact ⟨x, r, h1, RV.cpy e h2, RVs.cpy e h3⟩
end
theorem RE.cpy {env : Env} {σ : L2.St} (e : Cpy K ρ Z H ρ' Z' H') (h : RE K ρ Z H env σ) : RE K ρ' Z' H' env σ :=
  ⟨h.len, fun i d q => let ⟨v, a, b⟩ := h.val i d q; ⟨v, a, b.cpy e⟩⟩
theorem RFs.cpy {κ : Type} {fs : List (κ × D)} {gs : List (κ × V)} (e : Cpy K ρ Z H ρ' Z' H') (h : RFs K ρ Z H fs gs) : RFs K ρ' Z' H' fs gs := ⟨h.1, h.2.cpy e⟩
end
theorem RV.ext {d : D} {v : V} (e : Ext Z ρ H ρ' H') (h : RV K ρ Z H d v) : RV K ρ' Z H' d v := h.cpy e.cpy
theorem RVs.ext {ds : List D} {vs : List V} (e : Ext Z ρ H ρ' H') (h : RVs K ρ Z H ds vs) : RVs K ρ' Z H' ds vs := h.cpy e.cpy
theorem RE.ext {env : Env} {σ : L2.St} (e : Ext Z ρ H ρ' H') (h : RE K ρ Z H env σ) : RE K ρ' Z H' env σ := h.cpy e.cpy
theorem RFs.ext {κ : Type} {fs : List (κ × D)} {gs : List (κ × V)} (e : Ext Z ρ H ρ' H') (h : RFs K ρ Z H fs gs) : RFs K ρ' Z H' fs gs := h.cpy e.cpy
theorem RVs.length : ∀ {ds : List D} {vs : List V}, RVs K ρ Z H ds vs → vs.length = ds.length
  | [], _, h => by rw [RVs.nil] at h; rw [h]; rfl
  | d :: ds, _, h => by
    obtain ⟨x, r, rfl, _, h3⟩ := RVs.cons.mp h
    simp [RVs.length h3]
theorem RVs.get : ∀ {ds : List D} {vs : List V} {i : Nat} {d : D}, RVs K ρ Z H ds vs → ds[i]? = some d → ∃ v, vs[i]? = some v ∧ RV K ρ Z H d v
  | [], _, _, _, _, e => by simp at e
  | d :: ds, _, 0, _, h, e => by
    obtain ⟨x, r, rfl, h2, h3⟩ := RVs.cons.mp h
    simp at e
    subst e
    exact ⟨x, rfl, h2⟩
  | d :: ds, _, i + 1, _, h, e => by
    obtain ⟨x, r, rfl, h2, h3⟩ := RVs.cons.mp h
    obtain ⟨v, a, b⟩ := RVs.get (i := i) h3 (by simpa using e)
    exact ⟨v, by simpa using a, b⟩
theorem RVs.append : ∀ {ds es : List D} {vs ws : List V}, RVs K ρ Z H ds vs → RVs K ρ Z H es ws → RVs K ρ Z H (ds ++ es) (vs ++ ws)
  | [], _, _, _, h, g => by rw [RVs.nil] at h; subst h; exact g
  | d :: ds, _, _, _, h, g => by
    obtain ⟨x, r, rfl, h2, h3⟩ := RVs.cons.mp h
    exact RVs.cons.mpr ⟨x, r ++ _, rfl, h2, RVs.append h3 g⟩
theorem RVs.set : ∀ {ds : List D} {vs : List V} {d : D} {v : V} (i : Nat), RVs K ρ Z H ds vs → RV K ρ Z H d v → RVs K ρ Z H (ds.set i d) (vs.set i v)
  | [], _, _, _, _, h, _ => by rw [RVs.nil] at h; subst h; exact RVs.nil.mpr rfl
  | e :: ds, _, _, _, 0, h, g => by
    obtain ⟨x, r, rfl, h2, h3⟩ := RVs.cons.mp h
    exact RVs.cons.mpr ⟨_, r, rfl, g, h3⟩
  | e :: ds, _, _, _, i + 1, h, g => by
    obtain ⟨x, r, rfl, h2, h3⟩ := RVs.cons.mp h
    exact RVs.cons.mpr ⟨x, _, rfl, h2, RVs.set i h3 g⟩
theorem RVs.take : ∀ {ds : List D} {vs : List V} (n : Nat), RVs K ρ Z H ds vs → RVs K ρ Z H (ds.take n) (vs.take n)
  | _, _, 0, _ => RVs.nil.mpr rfl
  | [], _, n + 1, h => by rw [RVs.nil] at h; subst h; exact RVs.nil.mpr rfl
  | d :: ds, _, n + 1, h => by
    obtain ⟨x, r, rfl, h2, h3⟩ := RVs.cons.mp h
    exact RVs.cons.mpr ⟨x, _, rfl, h2, RVs.take n h3⟩
theorem RVs.drop : ∀ {ds : List D} {vs : List V} (n : Nat), RVs K ρ Z H ds vs → RVs K ρ Z H (ds.drop n) (vs.drop n)
  | _, _, 0, h => h
  | [], _, n + 1, h => by rw [RVs.nil] at h; subst h; exact RVs.nil.mpr rfl
  | d :: ds, _, n + 1, h => by
    obtain ⟨x, r, rfl, h2, h3⟩ := RVs.cons.mp h
    exact RVs.drop n h3
theorem RVs.one {d : D} {v : V} (h : RV K ρ Z H d v) : RVs K ρ Z H [d] [v] := RVs.cons.mpr ⟨v, [], rfl, h, RVs.nil.mpr rfl⟩
theorem RVs.ints (ns : List Int) : RVs K ρ Z H (ns.map D.int) (ns.map V.int) := by
  induction ns with
  | nil => exact RVs.nil.mpr rfl
  | cons n ns ih => exact RVs.cons.mpr ⟨_, _, rfl, RV.int.mpr rfl, ih⟩
theorem RE.set {env : Env} {σ : L2.St} {d : D} {v : V} (i : Nat) (h : RE K ρ Z H env σ) (r : RV K ρ Z H d v) : RE K ρ Z H (env.set i (some d)) (σ.set i (some v)) := by
  refine ⟨by simpa using h.len, fun j e q => ?_⟩
  by_cases hj : i = j
  · subst hj
    have hl : i < env.length := by
      by_cases z : i < env.length
      · exact z
      · rw [List.set_eq_of_length_le (by omega)] at q
        rw [List.getElem?_eq_none (by omega)] at q
        cases q
    rw [List.getElem?_set_self hl] at q
    cases q
    exact ⟨v, by rw [List.getElem?_set_self (by rw [← h.len]; exact hl)], r⟩
  · rw [List.getElem?_set_ne hj] at q
    obtain ⟨w, a, b⟩ := h.val j e q
    exact ⟨w, by rw [List.getElem?_set_ne hj]; exact a, b⟩
theorem RO.there {a : Addr} {o : Ob} (h : RO K ρ Z H mg a o) : ∃ u, H a = some u ∧ Mut (some u) := by
  cases o with
  | lst ds => obtain ⟨xs, e, _⟩ := h; exact ⟨_, e, trivial⟩
  | dct ds => obtain ⟨xs, e, _⟩ := h; exact ⟨_, e, trivial⟩
  | ins C fs => obtain ⟨_, _, _, _, e, _⟩ := h; exact ⟨_, e, trivial⟩
theorem RS.there {S : Store} (r : RS K ρ Z H mg S) {n : Nat} {a : Addr} (h : ρ[n]? = some a) : ∃ o u, S[n]? = some o ∧ RO K ρ Z H mg a o ∧ H a = some u := by
  have hn : n < S.length := by
    have z := (List.getElem?_eq_some_iff.mp h).1
    rw [r.len] at z
    exact z
  have e : S[n]? = some S[n] := List.getElem?_eq_getElem hn
  have q := r.obj n a _ h e
  obtain ⟨u, hu, _⟩ := q.there
  exact ⟨_, u, e, q, hu⟩
theorem RS.mem {S : Store} (r : RS K ρ Z H mg S) {a : Addr} (h : a ∈ ρ) : ∃ u, H a = some u := by
  obtain ⟨n, hn, e⟩ := List.mem_iff_getElem.mp h
  obtain ⟨_, u, _, _, hu⟩ := r.there (n := n) (a := a) (by rw [List.getElem?_eq_getElem hn, e])
  exact ⟨u, hu⟩
theorem RO.cpy {Z' : Zt} {a : Addr} {o : Ob} (e : Cpy K ρ Z H ρ' Z' H') (k : ∀ u, H a = some u → H' a = some u) (h : RO K ρ Z H mg a o) : RO K ρ' Z' H' mg a o := by
  cases o with
  | lst ds => obtain ⟨xs, h1, h2⟩ := h; exact ⟨xs, k _ h1, h2.cpy e⟩
  | dct ds => obtain ⟨xs, h1, h2⟩ := h; exact ⟨xs, k _ h1, h2.cpy e⟩
  | ins C fs => obtain ⟨Ca, dx, gs, h0, h1, h2⟩ := h; exact ⟨Ca, dx, gs, h0, k _ h1, h2.cpy e⟩
/-- an object's own row of the heap is kept -/
theorem RO.ext {a : Addr} {o : Ob} (e : Ext Z ρ H ρ' H') (k : ∀ u, H a = some u → H' a = some u) (h : RO K ρ Z H mg a o) : RO K ρ' Z H' mg a o := h.cpy e.cpy k
theorem ext_upd {S : Store} {p : Addr} {o : HO} (r : RS K ρ Z H mg S) (hp : H p = none) : Ext Z ρ H ρ (upd H p o) :=
  ⟨fun _ _ h => h, fun a xs h => by rw [upd_ne (ne_of_none h hp)]; exact h, fun a u xs h => by rw [upd_ne (ne_of_none h hp)]; exact h, fun a xs h n _ => ⟨by rw [upd_ne (ne_of_none h hp)]; exact h, n⟩,
    fun a h => upd_ne fun e => (r.hid a h).2 (by rw [e]; exact hp), fun a gs h => by rw [upd_ne (ne_of_none h hp)]; exact h⟩
/-- an immutable thing is made -/
theorem RS.fresh {S : Store} {p : Addr} {o : HO} (r : RS K ρ Z H mg S) (hp : H p = none) : RS K ρ Z (upd H p o) mg S :=
  ⟨r.len, r.inj, fun n a ob h1 h2 => (r.obj n a ob h1 h2).ext (ext_upd r hp) fun u e => by rw [upd_ne (ne_of_none e hp)]; exact e,
    fun a h => ⟨(r.hid a h).1, fun e => (r.hid a h).2 (by rw [upd_ne (fun z => (r.hid a h).2 (by rw [z]; exact hp))] at e; exact e)⟩⟩
theorem RS.notin {S : Store} {p : Addr} (r : RS K ρ Z H mg S) (hp : H p = none) : p ∉ ρ ∧ p ∉ Z :=
  ⟨fun h => (by
    obtain ⟨u, e⟩ := r.mem h
    rw [hp] at e
    exact nomatch e), fun h => (r.hid p h).2 hp⟩
theorem at_snoc {p a : Addr} {n : Nat} (h : (ρ ++ [p])[n]? = some a) : (ρ[n]? = some a ∧ n < ρ.length) ∨ (n = ρ.length ∧ a = p) := by
  by_cases hn : n < ρ.length
  · rw [List.getElem?_append_left hn] at h
    exact .inl ⟨h, hn⟩
  · rw [List.getElem?_append_right (by omega)] at h
    by_cases hz : n - ρ.length = 0
    · rw [hz] at h
      exact .inr ⟨by omega, by simpa using h.symm⟩
    · have : ([p] : List Addr)[n - ρ.length]? = none := List.getElem?_eq_none (by simp; omega)
      rw [this] at h
      cases h
/-- a changeable thing is made -/
theorem ext_new {S : Store} {p : Addr} {o : HO} (r : RS K ρ Z H mg S) (hp : H p = none) : Ext Z ρ H (ρ ++ [p]) (upd H p o) :=
  ⟨fun n a h => by rw [List.getElem?_append_left (List.getElem?_eq_some_iff.mp h).1]; exact h, (ext_upd r hp).tup, (ext_upd r hp).frz,
    fun a xs h n _ => ⟨by rw [upd_ne (ne_of_none h hp)]; exact h, fun z => by
      rcases List.mem_append.mp z with z | z
      · exact n z
      · exact ne_of_none h hp (by simpa using z)⟩, (ext_upd r hp).hid, (ext_upd r hp).xds⟩
theorem RS.new {S : Store} {p : Addr} {o : HO} {ob : Ob} (r : RS K ρ Z H mg S) (hp : H p = none) (new : RO K (ρ ++ [p]) Z (upd H p o) mg p ob) : RS K (ρ ++ [p]) Z (upd H p o) mg (S ++ [ob]) := by
  refine ⟨by simp [r.len], fun n m a h1 h2 => ?_, fun n a o' h1 h2 => ?_, fun a h => ⟨fun z => ?_, ((r.fresh hp).hid a h).2⟩⟩
  · rcases at_snoc h1 with ⟨e1, l1⟩ | ⟨e1, z1⟩ <;> rcases at_snoc h2 with ⟨e2, l2⟩ | ⟨e2, z2⟩
    · exact r.inj n m a e1 e2
    · obtain ⟨_, u, _, _, hu⟩ := r.there e1
      rw [z2, hp] at hu
      cases hu
    · obtain ⟨_, u, _, _, hu⟩ := r.there e2
      rw [z1, hp] at hu
      cases hu
    · omega
  · rcases at_snoc h1 with ⟨e1, l1⟩ | ⟨e1, z1⟩
    · rw [List.getElem?_append_left (by rw [← r.len]; exact l1)] at h2
      exact (r.obj n a o' e1 h2).ext (ext_new r hp) fun u e => by rw [upd_ne (ne_of_none e hp)]; exact e
    · have hz : n - S.length = 0 := by rw [e1, r.len]; omega
      rw [List.getElem?_append_right (by rw [e1, r.len]; exact Nat.le_refl _), hz] at h2
      have e2 : o' = ob := by simpa using h2.symm
      rw [e2, z1]
      exact new
  · rcases List.mem_append.mp z with z | z
    · exact (r.hid a h).1 z
    · exact (r.notin hp).2 (by rw [show p = a from (List.mem_singleton.mp z).symm]; exact h)
/-- a changeable thing is changed -/
theorem ext_set {S : Store} {n : Nat} {a : Addr} {o o' : HO} (r : RS K ρ Z H mg S) (hn : ρ[n]? = some a) (h : H a = some o) (m : Mut (some o)) : Ext Z ρ H ρ (upd H a o') :=
  have ha : a ∈ ρ := List.mem_of_getElem? hn
  ⟨fun _ _ h => h, fun b xs e => by
    by_cases z : b = a
    · subst z
      rw [h] at e
      cases e
      exact m.elim
    · rw [upd_ne z]
      exact e, fun b u xs e => by
    by_cases z : b = a
    · subst z
      rw [h] at e
      cases e
      exact m.elim
    · rw [upd_ne z]
      exact e, fun b xs e n _ => ⟨by rw [upd_ne (fun z => n (by rw [z]; exact ha))]; exact e, n⟩,
    fun b hb => upd_ne fun z => (r.hid b hb).1 (by rw [z]; exact ha), fun b gs e => by
    by_cases z : b = a
    · subst z
      rw [h] at e
      cases e
      exact m.elim
    · rw [upd_ne z]
      exact e⟩
theorem RS.set {S : Store} {n : Nat} {a : Addr} {o o' : HO} {ob : Ob} (r : RS K ρ Z H mg S) (hn : ρ[n]? = some a) (h : H a = some o) (m : Mut (some o)) (new : RO K ρ Z (upd H a o') mg a ob) : RS K ρ Z (upd H a o') mg (S.set n ob) := by
  refine ⟨by simp [r.len], r.inj, fun k b o2 h1 h2 => ?_, fun b hb => ⟨(r.hid b hb).1, ?_⟩⟩
  · by_cases hk : n = k
    · subst hk
      have hl : n < S.length := by
        rw [← r.len]
        exact (List.getElem?_eq_some_iff.mp hn).1
      rw [List.getElem?_set_self hl] at h2
      cases h2
      rw [hn] at h1
      cases h1
      exact new
    · rw [List.getElem?_set_ne hk] at h2
      refine (r.obj k b o2 h1 h2).ext (ext_set r hn h m) fun u e => ?_
      by_cases z : b = a
      · subst z
        exact absurd (r.inj n k b hn h1) hk
      · rw [upd_ne z]
        exact e
  · rw [upd_ne (fun z => (r.hid b hb).1 (by rw [z]; exact List.mem_of_getElem? hn))]
    exact (r.hid b hb).2
end
end Py

set_option Elab.async false
set_option linter.all false
set_option maxRecDepth 100000
/-! judgements and expressions -/
namespace Py
open PySem PySem.Spec PyProof.Rows L2

section
variable (X : Cx) (W : WX) (Z : Zt)
/-- what is wanted of a result -/
def GE {α : Type} (σ : L2.St) (ρ : List Addr) (H : Hp) (r : Res α) (Q : α → Store → List Addr → Hp → Prop) : Prop := match r with
  | .ok a S' => ∀ ρ' H', Ext Z ρ H ρ' H' → RS X.K ρ' Z H' X.mg S' → Q a S' ρ' H'
  | .exc x S' => ∀ ρ' H' c o, Ext Z ρ H ρ' H' → RS X.K ρ' Z H' X.mg S' → RX X.K ρ' Z H' X.mg x c o → W c o σ H'
  | .stuck => False
/-- the handled exception is that of the context -/
def HotF (mg : Str → Option Value) (h : Hot) : Prop := ∃ Ca, mg h.C = some (.ref Ca) ∧ Zc (.ref Ca) h.d h.oe ∧ ∃ vs, h.oe.data = .fields vs
structure HotOk (X : Cx) (z : Option Hot) : Prop where
  cold : X.calm = true → z = none
  warm : X.calm = false → ∃ h, z = some h
  at_ : ∀ h, z = some h → L2H.Hot1 X.A (h.a, h.oe) ∧ (h.a, h.oe) ∈ X.pn ∧ HotF X.mg h
theorem HotOk.none {X : Cx} {z : Option Hot} (hc : X.calm = true) (h : z = .none) : HotOk X z := ⟨fun _ => h, (fun e => nomatch (hc.symm.trans e)), (fun _ e => nomatch (h.symm.trans e))⟩
/-- the state at hand -/
structure At (ρ : List Addr) (H : Hp) (S : Store) (env : Env) (σ : L2.St) : Prop where
  rs : RS X.K ρ Z H X.mg S
  re : RE X.K ρ Z H env σ
  hot : HotOk X Z.hot
def qV (Q : VK) : D → Store → List Addr → Hp → Prop := fun d _ ρ' H' => ∀ v, RV X.K ρ' Z H' d v → Q v H'
def qA (Q : List V → Hp → Prop) : List D → Store → List Addr → Hp → Prop := fun d _ ρ' H' => ∀ v, RVs X.K ρ' Z H' d v → Q v H'
def qB (Q : Bool → Hp → Prop) : Bool → Store → List Addr → Hp → Prop := fun b _ _ H' => Q b H'
end
section
variable (X : Cx) (W : WX)
def rd (m : ME) : TE := fun σ H Q => ∃ Z ρ env S, At X Z ρ H S env σ ∧ GE X W Z σ ρ H (m env S) (qV X Z Q)
def rdT (m : MT) : TT := fun σ H Q => ∃ Z ρ env S, At X Z ρ H S env σ ∧ GE X W Z σ ρ H (m env S) (qB Q)
def rdA (m : MA) : TA := fun σ H Q => ∃ Z ρ env S, At X Z ρ H S env σ ∧ GE X W Z σ ρ H (m env S) (qA X Z Q)
/-- m is what e means -/
def SE (e : Expr) (m : ME) : Prop := PE X e (rd X W m)
def ST (e : Expr) (m : MT) : Prop := PT X e (rdT X W m)
def SW (e : Expr) (m : MT) : Prop := PW X e (rdT X W m)
def SA (es : List Expr) (m : MA) : Prop := PA X es (rdA X W m)
end
section
variable {X : Cx} {W : WX} {Z : Zt} {σ : L2.St} {ρ ρ' : List Addr} {H H' : Hp} {S : Store} {env : Env} {α β : Type}
theorem GE.imp {r : Res α} {Q Q' : α → Store → List Addr → Hp → Prop} (h : GE X W Z σ ρ H r Q) (k : ∀ a S' ρ' H', Ext Z ρ H ρ' H' → RS X.K ρ' Z H' X.mg S' → Q a S' ρ' H' → Q' a S' ρ' H') : GE X W Z σ ρ H r Q' := by
  cases r with
  | ok a S' => exact fun ρ' H' e s => k a S' ρ' H' e s (h ρ' H' e s)
  | exc x S' => exact h
  | stuck => exact h
theorem GE.ext {r : Res α} {Q : α → Store → List Addr → Hp → Prop} (e : Ext Z ρ H ρ' H') (h : GE X W Z σ ρ H r Q) : GE X W Z σ ρ' H' r Q := by
  cases r with
  | ok a S' => exact fun ρ2 H2 e2 s => h ρ2 H2 (e.trans e2) s
  | exc x S' => exact fun ρ2 H2 c o e2 s => h ρ2 H2 c o (e.trans e2) s
  | stuck => exact h
theorem GE.bnd {m : M α} {k : α → M β} {Q : β → Store → List Addr → Hp → Prop} (h : GE X W Z σ ρ H (Py.bnd m k S) Q) : GE X W Z σ ρ H (m S) fun a S' ρ' H' => GE X W Z σ ρ' H' (k a S') Q := by
  unfold Py.bnd at h
  cases e : m S with
  | ok a S' =>
    rw [e] at h
    exact fun ρ' H' e2 _ => h.ext e2
  | exc x S' =>
    rw [e] at h
    exact h
  | stuck =>
    rw [e] at h
    exact h
theorem GE.giv {a : α} {Q : α → Store → List Addr → Hp → Prop} (h : GE X W Z σ ρ H (Py.giv a S) Q) (s : RS X.K ρ Z H X.mg S) : Q a S ρ H := h ρ H Ext.refl s
theorem At.ext (a : At X Z ρ H S env σ) (e : Ext Z ρ H ρ' H') {S' : Store} (s : RS X.K ρ' Z H' X.mg S') : At X Z ρ' H' S' env σ := ⟨s, a.re.ext e, a.hot⟩
theorem PE.imp {e : Expr} {t t' : TE} (h : PE X e t) (k : ∀ σ H Q, t' σ H Q → t σ H Q) : PE X e t' := ⟨fun pins s σ H Q I q => h.run pins s σ H Q I (k σ H Q q)⟩
theorem PT.imp {e : Expr} {t t' : TT} (h : PT X e t) (k : ∀ σ H Q, t' σ H Q → t σ H Q) : PT X e t' := ⟨fun pins s σ H Q I q => h.run pins s σ H Q I (k σ H Q q)⟩
theorem PW.imp {e : Expr} {t t' : TT} (h : PW X e t) (k : ∀ σ H Q, t' σ H Q → t σ H Q) : PW X e t' := ⟨fun wh pins s σ H Q I q => h.run wh pins s σ H Q I (k σ H Q q)⟩
theorem PA.imp {e : List Expr} {t t' : TA} (h : PA X e t) (k : ∀ σ H Q, t' σ H Q → t σ H Q) : PA X e t' := ⟨fun pos pins s σ H Q I q => h.run pos pins s σ H Q I (k σ H Q q)⟩
/-- the first of two -/
theorem At.first (a : At X Z ρ H S env σ) {m : ME} {k : D → M β} {Q' : β → Store → List Addr → Hp → Prop} {Q : VK} (h : GE X W Z σ ρ H (Py.bnd (m env) k S) Q')
    (n : ∀ ρ' H' S' d v, At X Z ρ' H' S' env σ → Ext Z ρ H ρ' H' → RV X.K ρ' Z H' d v → GE X W Z σ ρ' H' (k d S') Q' → Q v H') : rd X W m σ H Q :=
  ⟨Z, ρ, env, S, a, h.bnd.imp fun d S' ρ' H' e s g v r => n ρ' H' S' d v (a.ext e s) e r g⟩
theorem At.firstT (a : At X Z ρ H S env σ) {m : MT} {k : Bool → M β} {Q' : β → Store → List Addr → Hp → Prop} {Q : Bool → Hp → Prop} (h : GE X W Z σ ρ H (Py.bnd (m env) k S) Q')
    (n : ∀ ρ' H' S' b, At X Z ρ' H' S' env σ → Ext Z ρ H ρ' H' → GE X W Z σ ρ' H' (k b S') Q' → Q b H') : rdT X W m σ H Q :=
  ⟨Z, ρ, env, S, a, h.bnd.imp fun d S' ρ' H' e s g => n ρ' H' S' d (a.ext e s) e g⟩
theorem At.firstA (a : At X Z ρ H S env σ) {m : MA} {k : List D → M β} {Q' : β → Store → List Addr → Hp → Prop} {Q : List V → Hp → Prop} (h : GE X W Z σ ρ H (Py.bnd (m env) k S) Q')
    (n : ∀ ρ' H' S' d v, At X Z ρ' H' S' env σ → Ext Z ρ H ρ' H' → RVs X.K ρ' Z H' d v → GE X W Z σ ρ' H' (k d S') Q' → Q v H') : rdA X W m σ H Q :=
  ⟨Z, ρ, env, S, a, h.bnd.imp fun d S' ρ' H' e s g v r => n ρ' H' S' d v (a.ext e s) e r g⟩
end

/-! ### names, constants -/
def slotM : Option (Option D) → M D
  | some (some d) => giv d
  | _ => fail
def mSlot (i : Nat) (env : Env) (S : Store) : Res D := slotM env[i]? S
def mC (d : D) (_ : Env) (S : Store) : Res D := .ok d S
section
variable {X : Cx} {W : WX} {pos : Pos} {a b c e : Expr} {ma mb mc : ME}
theorem se_slot (i : Nat) {x : Str} (hN : X.N[i]? = some x := by rfl) (hv : Vis X.env.scope x := by first | exact Or.inl rfl | exact Or.inr (Or.inl rfl) | exact Or.inr (Or.inr rfl)) (hd : (x == ("__debug__" : Str)) = false := by decide)
    (hcd : (x == ("__classdict__" : Str)) = false := by decide) : SE X W (.Name x pos) (mSlot i) := by
  refine PE.imp (pe_var hN hv hd hcd) fun σ H Q ⟨Z, ρ, env, S, a, g⟩ => ?_
  have g' : GE X W Z σ ρ H (slotM env[i]? S) (qV X Z Q) := g
  cases e : env[i]? with
  | none => rw [e] at g'; exact g'.elim
  | some o =>
    rw [e] at g'
    cases o with
    | none => exact g'.elim
    | some d =>
      obtain ⟨v, h1, h2⟩ := a.re.val i d e
      exact ⟨v, h1, GE.giv g' a.rs v h2⟩
theorem se_c {d : D} {v : V} (h : PE X e (tC v)) (r : ∀ ρ Z H, RV X.K ρ Z H d v) : SE X W e (mC d) := by
  refine PE.imp h fun σ H Q ⟨Z, ρ, env, S, a, g⟩ => ?_
  exact g.giv a.rs v (r _ _ _)
theorem se_int {i : Int} {j : Nat} : SE X W (.Constant (.int i) j pos) (mC (.int i)) := se_c pe_int fun _ _ _ => RV.int.mpr rfl
theorem se_bl {b : Bool} {j : Nat} : SE X W (.Constant (.bool b) j pos) (mC (.bl b)) := se_c pe_bl fun _ _ _ => RV.bl.mpr rfl
theorem se_non {j : Nat} : SE X W (.Constant .none j pos) (mC .non) := se_c pe_non fun _ _ _ => RV.non.mpr rfl
theorem se_str {x : Str} {j : Nat} : SE X W (.Constant (.str x) j pos) (mC (.str x)) := se_c pe_str fun _ _ _ => RV.str.mpr rfl

/-! ### two operands -/
def m2 (f : D → D → M D) (ma mb : ME) (env : Env) (S : Store) : Res D := (bnd (ma env) fun x => bnd (mb env) fun y => f x y) S
def m1 (f : D → M D) (ma : ME) (env : Env) (S : Store) : Res D := (bnd (ma env) fun x => f x) S
/-- g is what the operation f does to data -/
def O2 (X : Cx) (W : WX) (r : R2) (g : D → D → M D) : Prop := ∀ Z σ ρ H S x y v u Q, RS X.K ρ Z H X.mg S → RV X.K ρ Z H x v → RV X.K ρ Z H y u → GE X W Z σ ρ H (g x y S) (qV X Z Q) → r v u H Q
theorem m2_ok {r : R2} {g : D → D → M D} (h : O2 X W r g) {σ : L2.St} {H : Hp} {Q : VK} (q : rd X W (m2 g ma mb) σ H Q) : tOp r (rd X W ma) (rd X W mb) σ H Q := by
  obtain ⟨Z, ρ, env, S, a, q⟩ := q
  refine a.first q fun ρ1 H1 S1 x v a1 e1 rv q1 => ?_
  refine a1.first q1 fun ρ2 H2 S2 y u a2 e2 ru q2 => ?_
  exact h Z σ ρ2 H2 S2 x y v u Q a2.rs (rv.ext e2) ru q2
theorem se_bin {op : Operator} {r : R2} {g : D → D → M D} (ho : OpR X (binaryOp op) r) (h : O2 X W r g) (ha : SE X W a ma) (hb : SE X W b mb) : SE X W (.BinOp a op b pos) (m2 g ma mb) :=
  PE.imp (pe_op ho ha hb) fun _ _ _ q => m2_ok h q
theorem se_cmp {op : CmpOp} {r : R2} {g : D → D → M D} (ho : OpR X (compareOp op) r) (h : O2 X W r g) (ha : SE X W a ma) (hb : SE X W b mb) (hm : behindInMarks op b = false) : SE X W (.Compare a [op] [b] pos) (m2 g ma mb) :=
  PE.imp (pe_cmpR ho ha hb hm) fun _ _ _ q => m2_ok h q
/-- a truth value as a test -/
def asB : D → M Bool
  | .bl b => giv b
  | _ => fail
def mB (ma : ME) (env : Env) (S : Store) : Res Bool := (bnd (ma env) asB) S
theorem mB_ok {σ : L2.St} {H : Hp} {Q : Bool → Hp → Prop} (q : rdT X W (mB ma) σ H Q) : rd X W ma σ H fun x H' => ∃ k, x = .bl k ∧ Q k H' := by
  obtain ⟨Z, ρ, env, S, a, q⟩ := q
  refine a.first q fun ρ1 H1 S1 x v a1 e1 rv q1 => ?_
  cases x with
  | bl b => exact ⟨b, RV.bl.mp rv, q1.giv a1.rs⟩
  | _ => exact q1.elim
theorem rd_mono {m : ME} {σ : L2.St} {H : Hp} {Q Q' : VK} (h : rd X W m σ H Q) (k : ∀ v H', Q v H' → Q' v H') : rd X W m σ H Q' := by
  obtain ⟨Z, ρ, env, S, a, q⟩ := h
  exact ⟨Z, ρ, env, S, a, q.imp fun d S' ρ' H' e s g v r => k v H' (g v r)⟩
theorem st_cmp {op : CmpOp} {r : R2} {g : D → D → M D} (ho : OpR X (compareOp op) r) (h : O2 X W r g) (ha : SE X W a ma) (hb : SE X W b mb) (hm : behindInMarks op b = false) : ST X W (.Compare a [op] [b] pos) (mB (m2 g ma mb)) :=
  PT.imp (pt_cmpR ho ha hb hm) fun σ H Q q => m2_ok h (mB_ok q)
/-- any expression whose value is a truth value, as a test -/
theorem st_val (ha : SE X W e ma) (he : ∀ whole, isTrue e X.env whole = (do let v ← whole; standAt e.pos; holding [v] (truthy v)) := by intro _; rfl) : ST X W e (mB ma) :=
  PT.imp (pt_val ha he) fun σ H Q q => mB_ok q
/-- only if -/
def need {α : Type} (c : Prop) [Decidable c] (m : M α) (S : Store) : Res α := if c then m S else .stuck
theorem GE.need {α : Type} {Z : Zt} {σ : L2.St} {ρ : List Addr} {H : Hp} {S : Store} {c : Prop} [Decidable c] {m : M α} {Q : α → Store → List Addr → Hp → Prop} (q : GE X W Z σ ρ H (Py.need c m S) Q) : c ∧ GE X W Z σ ρ H (m S) Q := by
  unfold Py.need at q
  by_cases h : c
  · rw [if_pos h] at q
    exact ⟨h, q⟩
  · rw [if_neg h] at q
    exact q.elim
/-- truth -/
def truO : Option Ob → M Bool
  | some (.lst ds) => giv (!ds.isEmpty)
  | some (.dct kvs) => giv (!kvs.isEmpty)
  | _ => fail
def asT : D → M Bool
  | .non => giv false
  | .bl b => giv b
  | .int i => giv (i != 0)
  | .str x => need (x.length ≤ sizeLine) (giv ((x.length : Int) != 0))
  | .tup ds => giv (!ds.isEmpty)
  | .rol ds => giv (!ds.isEmpty)
  | .frz ds => giv (!ds.isEmpty)
  | .obj n => fun S => truO S[n]? S
  | .hot _ _ _ => fail
def mT (ma : ME) (env : Env) (S : Store) : Res Bool := (bnd (ma env) asT) S
theorem RVs.empty {K : PySem.W.Frag} {ρ : List Addr} {Z : Zt} {H : Hp} {ds : List D} {vs : List V} (h : RVs K ρ Z H ds vs) : vs.isEmpty = ds.isEmpty := by
  cases ds with
  | nil => rw [RVs.nil.mp h]; rfl
  | cons d ds => obtain ⟨x, r, rfl, _, _⟩ := RVs.cons.mp h; rfl
theorem asT_ok {ρ : List Addr} {Z : Zt} {H : Hp} {S : Store} {σ : L2.St} {d : D} {v : V} {Q : Bool → Hp → Prop} (s : RS X.K ρ Z H X.mg S) (r : RV X.K ρ Z H d v) (q : GE X W Z σ ρ H (asT d S) (qB Q)) : ∃ k, TruV X.K v H k ∧ Q k H := by
  cases d with
  | hot _ _ _ => exact q.elim
  | non => rw [RV.non.mp r]; exact ⟨_, rfl, q.giv s⟩
  | bl b => rw [RV.bl.mp r]; exact ⟨_, rfl, q.giv s⟩
  | int i => rw [RV.int.mp r]; exact ⟨_, rfl, q.giv s⟩
  | str x =>
    rw [RV.str.mp r]
    obtain ⟨c, q⟩ := GE.need (show GE X W Z σ ρ H (need (x.length ≤ sizeLine) (giv ((x.length : Int) != 0)) S) (qB Q) from q)
    exact ⟨_, ⟨c, rfl⟩, q.giv s⟩
  | tup ds =>
    obtain ⟨a, xs, rfl, h2, h3⟩ := RV.tup.mp r
    exact ⟨_, .inr (.inl ⟨xs, h2, by rw [h3.empty]⟩), q.giv s⟩
  | rol ds =>
    obtain ⟨a, xs, rfl, h2, h3⟩ := RV.rol.mp r
    exact ⟨_, .inl ⟨xs, SqL.of h2.1, by rw [h3.empty]⟩, q.giv s⟩
  | frz ds =>
    obtain ⟨a, xs, rfl, h2, h3⟩ := RV.frz.mp r
    exact ⟨_, .inl ⟨xs, h2.seq, by rw [h3.empty]⟩, q.giv s⟩
  | obj n =>
    obtain ⟨a, h1, rfl⟩ := RV.obj.mp r
    obtain ⟨o, u, e1, e2, e3⟩ := s.there h1
    have q : GE X W Z σ ρ H (truO S[n]? S) (qB Q) := q
    rw [e1] at q
    cases o with
    | lst ds =>
      obtain ⟨xs, h2, h3⟩ := e2
      exact ⟨_, .inl ⟨xs, SqL.of h2, by rw [h3.empty]⟩, GE.giv q s⟩
    | dct ds =>
      obtain ⟨xs, h2, h3⟩ := e2
      refine ⟨_, .inr (.inr ⟨xs, h2, ?_⟩), GE.giv q s⟩
      have z := h3.2.empty
      have z2 : xs.isEmpty = ds.isEmpty := by cases xs <;> cases ds <;> simp_all
      rw [z2]
    | ins C fs => exact q.elim
theorem mT_ok {σ : L2.St} {H : Hp} {Q : Bool → Hp → Prop} (q : rdT X W (mT ma) σ H Q) : rd X W ma σ H fun x H' => ∃ k, TruV X.K x H' k ∧ Q k H' := by
  obtain ⟨Z, ρ, env, S, a, q⟩ := q
  refine a.first q fun ρ1 H1 S1 x v a1 e1 rv q1 => ?_
  exact asT_ok a1.rs rv q1
theorem st_truth (ha : SE X W e ma) (he : ∀ whole, isTrue e X.env whole = (do let v ← whole; standAt e.pos; holding [v] (truthy v)) := by intro _; rfl) : ST X W e (mT ma) :=
  PT.imp (pt_truth ha he) fun σ H Q q => mT_ok q

/-! ### and, or, not -/
variable {ta tb : MT} {rest : List Expr}
def mAnd (ta tb : MT) (env : Env) (S : Store) : Res Bool := (bnd (ta env) fun c => if c then tb env else giv false) S
def mOr (ta tb : MT) (env : Env) (S : Store) : Res Bool := (bnd (ta env) fun c => if c then giv true else tb env) S
def mNot (ta : MT) (env : Env) (S : Store) : Res Bool := (bnd (ta env) fun c => giv (!c)) S
theorem sw_and1 (ha : ST X W a ta) : SW X W (.BoolOp .And [a] pos) ta := pw_and1 ha
theorem sw_or1 (ha : ST X W a ta) : SW X W (.BoolOp .Or [a] pos) ta := pw_or1 ha
theorem sw_and (ha : ST X W a ta) (hb : SW X W (.BoolOp .And (b :: rest) pos) tb) : SW X W (.BoolOp .And (a :: b :: rest) pos) (mAnd ta tb) := by
  refine PW.imp (pw_and ha hb) fun σ H Q ⟨Z, ρ, env, S, a, q⟩ => ?_
  refine a.firstT q fun ρ1 H1 S1 c a1 e1 q1 => ?_
  cases c with
  | true => exact iteT ⟨Z, ρ1, env, S1, a1, q1⟩
  | false => exact iteF (q1.giv a1.rs)
theorem sw_or (ha : ST X W a ta) (hb : SW X W (.BoolOp .Or (b :: rest) pos) tb) : SW X W (.BoolOp .Or (a :: b :: rest) pos) (mOr ta tb) := by
  refine PW.imp (pw_or ha hb) fun σ H Q ⟨Z, ρ, env, S, a, q⟩ => ?_
  refine a.firstT q fun ρ1 H1 S1 c a1 e1 q1 => ?_
  cases c with
  | true => exact iteT (q1.giv a1.rs)
  | false => exact iteF ⟨Z, ρ1, env, S1, a1, q1⟩
theorem st_w (h : SW X W e ta) : ST X W e ta := PW.pt h
theorem st_not (ha : ST X W a ta) : ST X W (.UnaryOp .Not a pos) (mNot ta) := by
  refine PT.imp (pt_not ha) fun σ H Q ⟨Z, ρ, env, S, a, q⟩ => ?_
  exact a.firstT q fun ρ1 H1 S1 c a1 e1 q1 => q1.giv a1.rs
/-- .. as values -/
def mAndV (ma mb : ME) (env : Env) (S : Store) : Res D := (bnd (ma env) fun x => bnd (asT x) fun c => if c then mb env else giv x) S
def mOrV (ma mb : ME) (env : Env) (S : Store) : Res D := (bnd (ma env) fun x => bnd (asT x) fun c => if c then giv x else mb env) S
def mNotV (ma : ME) (env : Env) (S : Store) : Res D := (bnd (ma env) fun x => bnd (asT x) fun c => giv (.bl (!c))) S
theorem truO_store {o : Option Ob} {S S' : Store} {b : Bool} (h : truO o S = .ok b S') : S' = S := by
  cases o with
  | none => cases h
  | some o => cases o <;> first | (injection h with _ e; exact e.symm) | cases h
theorem asT_store {d : D} {S S' : Store} {b : Bool} (h : asT d S = .ok b S') : S' = S := by
  cases d with
  | str x =>
    have h' : (if x.length ≤ sizeLine then Res.ok ((x.length : Int) != 0) S else .stuck) = Res.ok b S' := h
    by_cases c : x.length ≤ sizeLine
    · rw [if_pos c] at h'
      injection h' with _ e
      exact e.symm
    · rw [if_neg c] at h'
      cases h'
  | obj n => exact truO_store h
  | hot _ _ _ => cases h
  | _ => injection h with _ e; exact e.symm
/-- truth, then the rest -/
theorem GE.asT {ρ : List Addr} {Z : Zt} {H : Hp} {S : Store} {σ : L2.St} {d : D} {v : V} {k : Bool → M α} {Q : α → Store → List Addr → Hp → Prop} (s : RS X.K ρ Z H X.mg S) (r : RV X.K ρ Z H d v) (q : GE X W Z σ ρ H (Py.bnd (Py.asT d) k S) Q) :
    ∃ b, TruV X.K v H b ∧ GE X W Z σ ρ H (k b S) Q := by
  cases e : Py.asT d S with
  | ok b S' =>
    have es := asT_store e
    subst es
    obtain ⟨k', t, z⟩ := asT_ok (W := fun _ _ _ _ => True) (σ := []) (Q := fun c _ => c = b) s r (by rw [e]; exact fun _ _ _ _ => rfl)
    unfold Py.bnd at q
    rw [e] at q
    exact ⟨b, by rw [← z]; exact t, q⟩
  | exc x S' =>
    exfalso
    cases d with
    | str x =>
      have h' : (if x.length ≤ sizeLine then Res.ok ((x.length : Int) != 0) S else .stuck) = Res.exc _ S' := e
      split at h' <;> cases h'
    | obj n =>
      have e : truO S[n]? S = _ := e
      cases h : S[n]? with
      | none => rw [h] at e; cases e
      | some o => rw [h] at e; cases o <;> cases e
    | _ => cases e
  | stuck =>
    unfold Py.bnd at q
    rw [e] at q
    exact q.elim
theorem se_one {op : BoolOp} (h : SE X W a ma) : SE X W (.BoolOp op [a] pos) ma := pe_one h
theorem se_and (ha : SE X W a ma) (hb : SE X W (.BoolOp .And (b :: rest) pos) mb) : SE X W (.BoolOp .And (a :: b :: rest) pos) (mAndV ma mb) := by
  refine PE.imp (pe_andT ha hb) fun σ H Q ⟨Z, ρ, env, S, a, q⟩ => ?_
  refine a.first q fun ρ1 H1 S1 x v a1 e1 rv q1 => ?_
  obtain ⟨k, t, q2⟩ := q1.asT a1.rs rv
  cases k with
  | true => exact ⟨true, t, iteT ⟨Z, ρ1, env, _, a1, q2⟩⟩
  | false => exact ⟨false, t, iteF (GE.giv (show GE X W Z σ ρ1 H1 (giv x S1) (qV X Z Q) from q2) a1.rs v rv)⟩
theorem se_or (ha : SE X W a ma) (hb : SE X W (.BoolOp .Or (b :: rest) pos) mb) : SE X W (.BoolOp .Or (a :: b :: rest) pos) (mOrV ma mb) := by
  refine PE.imp (pe_orT ha hb) fun σ H Q ⟨Z, ρ, env, S, a, q⟩ => ?_
  refine a.first q fun ρ1 H1 S1 x v a1 e1 rv q1 => ?_
  obtain ⟨k, t, q2⟩ := q1.asT a1.rs rv
  cases k with
  | true => exact ⟨true, t, iteT (GE.giv (show GE X W Z σ ρ1 H1 (giv x S1) (qV X Z Q) from q2) a1.rs v rv)⟩
  | false => exact ⟨false, t, iteF ⟨Z, ρ1, env, _, a1, q2⟩⟩
theorem se_not (ha : SE X W a ma) : SE X W (.UnaryOp .Not a pos) (mNotV ma) := by
  refine PE.imp (pe_notT ha) fun σ H Q ⟨Z, ρ, env, S, a, q⟩ => ?_
  refine a.first q fun ρ1 H1 S1 x v a1 e1 rv q1 => ?_
  obtain ⟨k, t, q2⟩ := q1.asT a1.rs rv
  exact ⟨k, t, GE.giv q2 a1.rs _ (RV.bl.mpr rfl)⟩
/-- a if t else b -/
def mIfE (t : MT) (ma mb : ME) (env : Env) (S : Store) : Res D := (bnd (t env) fun c => if c then ma env else mb env) S
theorem se_ifE (hc : ST X W c ta) (ha : SE X W a ma) (hb : SE X W b mb) : SE X W (.IfExp c a b pos) (mIfE ta ma mb) := by
  refine PE.imp (pe_ifExp hc ha hb) fun σ H Q ⟨Z, ρ, env, S, a, q⟩ => ?_
  refine a.firstT q fun ρ1 H1 S1 c a1 e1 q1 => ?_
  cases c with
  | true => exact iteT ⟨Z, ρ1, env, S1, a1, q1⟩
  | false => exact iteF ⟨Z, ρ1, env, S1, a1, q1⟩

/-! ### argument lists, tuples, lists -/
variable {es : List Expr} {mas : MA}
def mNil (_ : Env) (S : Store) : Res (List D) := .ok [] S
def mCons (ma : ME) (mas : MA) (env : Env) (S : Store) : Res (List D) := (bnd (ma env) fun x => bnd (mas env) fun xs => giv (x :: xs)) S
theorem sa_nil : SA X W [] mNil := PA.imp pa_nil fun σ H Q ⟨Z, ρ, env, S, a, q⟩ => q.giv a.rs [] (RVs.nil.mpr rfl)
theorem sa_cons (ha : SE X W a ma) (hr : SA X W es mas) (hs : starEach (a :: es) X.env = (false, eval a X.env) :: starEach es X.env := by rfl) : SA X W (a :: es) (mCons ma mas) := by
  refine PA.imp (pa_cons ha hr hs) fun σ H Q ⟨Z, ρ, env, S, a, q⟩ => ?_
  refine a.first q fun ρ1 H1 S1 x v a1 e1 rv q1 => ?_
  refine a1.firstA q1 fun ρ2 H2 S2 xs vs a2 e2 rvs q2 => ?_
  exact q2.giv a2.rs _ (RVs.cons.mpr ⟨v, vs, rfl, rv.ext e2, rvs⟩)
/-- how long it may be -/
abbrev small (n : Nat) (m : M D) : M D := need (n ≤ sizeLine) m
def mTup (mas : MA) (env : Env) (S : Store) : Res D := (bnd (mas env) fun xs => small xs.length (giv (.tup xs))) S
theorem new_tup {Z : Zt} {σ : L2.St} {ρ : List Addr} {H : Hp} {S : Store} {ds : List D} {xs : List V} {Q : VK} {p : Addr} (s : RS X.K ρ Z H X.mg S) (r : RVs X.K ρ Z H ds xs) (q : GE X W Z σ ρ H (giv (.tup ds) S) (qV X Z Q)) (hp : H p = none) : Q (.ref p) (upd H p (.tup xs)) :=
  q ρ _ (ext_upd s hp) (s.fresh hp) _ (RV.tup.mpr ⟨p, xs, rfl, SqT.of upd_same, r.ext (ext_upd s hp)⟩)
theorem new_lst {Z : Zt} {σ : L2.St} {ρ : List Addr} {H : Hp} {S : Store} {o : Bool} {ds : List D} {xs : List V} {Q : VK} {p : Addr} (s : RS X.K ρ Z H X.mg S) (r : RVs X.K ρ Z H ds xs) (q : GE X W Z σ ρ H (mkL o ds S) (qV X Z Q)) (hp : H p = none) : Q (.ref p) (upd H p (.lst xs)) := by
  cases o with
  | false => exact q ρ _ (ext_upd s hp) (s.fresh hp) _ (RV.rol.mpr ⟨p, xs, rfl, ⟨upd_same, s.notin hp⟩, r.ext (ext_upd s hp)⟩)
  | true =>
    refine q (ρ ++ [p]) _ (ext_new s hp) (s.new hp ⟨xs, upd_same, r.ext (ext_new s hp)⟩) _ (RV.obj.mpr ⟨p, ?_, rfl⟩)
    rw [List.getElem?_append_right (by rw [s.len]; exact Nat.le_refl _), s.len, Nat.sub_self]
    rfl
theorem se_tup {k : Nat} (h : SA X W es mas) : SE X W (.Tuple es k pos) (mTup mas) := by
  refine PE.imp (pe_tup h) fun σ H Q ⟨Z, ρ, env, S, a, q⟩ => ?_
  refine a.firstA q fun ρ1 H1 S1 xs vs a1 e1 rvs q1 => ?_
  obtain ⟨c, q2⟩ := GE.need q1
  exact ⟨by rw [rvs.length]; exact c, fun p hp => new_tup a1.rs rvs q2 hp⟩
def mLst (o : Bool) (mas : MA) (env : Env) (S : Store) : Res D := (bnd (mas env) fun xs => small xs.length (mkL o xs)) S
theorem se_lst (o : Bool) (h : SA X W es mas) : SE X W (.List es pos) (mLst o mas) := by
  refine PE.imp (pe_lst h) fun σ H Q ⟨Z, ρ, env, S, a, q⟩ => ?_
  refine a.firstA q fun ρ1 H1 S1 xs vs a1 e1 rvs q1 => ?_
  obtain ⟨c, q2⟩ := GE.need q1
  exact ⟨by rw [rvs.length]; exact c, fun p hp => new_lst a1.rs rvs q2 hp⟩

/-! ### operators on data -/
theorem se_un {op : UnaryOp} {r : V → Hp → VK → Prop} {g : D → M D} (ho : UnR X (unaryOp op) r)
    (h : ∀ Z σ ρ H S x v Q, RS X.K ρ Z H X.mg S → RV X.K ρ Z H x v → GE X W Z σ ρ H (g x S) (qV X Z Q) → r v H Q) (ha : SE X W a ma) : SE X W (.UnaryOp op a pos) (m1 g ma) := by
  refine PE.imp (pe_un ho ha) fun σ H Q ⟨Z, ρ, env, S, a, q⟩ => ?_
  exact a.first q fun ρ1 H1 S1 x v a1 e1 rv q1 => h Z σ ρ1 H1 S1 x v Q a1.rs rv q1
end
end Py

set_option Elab.async false
set_option linter.all false
set_option maxRecDepth 100000
/-! operators and built-ins on data -/
namespace Py
open PySem PySem.Spec PyProof.Rows L2

def opt {α β : Type} : Option α → (α → M β) → M β
  | some a, k => k a
  | none, _ => fail
/-- the items of a list of the store -/
def lstO : Option Ob → M (List D)
  | some (.lst ds) => giv ds
  | _ => fail
/-- the items of a list; of a list or tuple -/
def getL : D → M (List D)
  | .rol ds => giv ds
  | .frz ds => giv ds
  | .obj n => fun S => lstO S[n]? S
  | _ => fail
def getQ : D → M (List D)
  | .tup ds => giv ds
  | d => getL d
section
variable {X : Cx} {W : WX} {ρ : List Addr} {Z : Zt} {H : Hp} {S : Store} {σ : L2.St} {α β : Type} {Q : β → Store → List Addr → Hp → Prop}
theorem GE.opt {o : Option α} {k : α → M β} (q : GE X W Z σ ρ H (Py.opt o k S) Q) : ∃ a, o = some a ∧ GE X W Z σ ρ H (k a S) Q := by
  cases o with
  | none => exact q.elim
  | some a => exact ⟨a, rfl, q⟩
theorem GE.getL {d : D} {v : V} {k : List D → M β} (s : RS X.K ρ Z H X.mg S) (r : RV X.K ρ Z H d v) (q : GE X W Z σ ρ H (Py.bnd (Py.getL d) k S) Q) :
    ∃ ds a xs, v = .ref a ∧ SqL X.K H a xs ∧ RVs X.K ρ Z H ds xs ∧ GE X W Z σ ρ H (k ds S) Q := by
  cases d with
  | rol ds =>
    obtain ⟨a, xs, e, h2, h3⟩ := RV.rol.mp r
    exact ⟨ds, a, xs, e, SqL.of h2.1, h3, q⟩
  | frz ds =>
    obtain ⟨a, xs, e, h2, h3⟩ := RV.frz.mp r
    exact ⟨ds, a, xs, e, h2.seq, h3, q⟩
  | obj n =>
    obtain ⟨a, h1, e⟩ := RV.obj.mp r
    obtain ⟨o, u, e1, e2, e3⟩ := s.there h1
    have q : GE X W Z σ ρ H (Py.bnd (fun S => lstO S[n]? S) k S) Q := q
    unfold Py.bnd at q
    simp only [e1] at q
    cases o with
    | lst ds =>
      obtain ⟨xs, h2, h3⟩ := e2
      exact ⟨ds, a, xs, e, SqL.of h2, h3, q⟩
    | dct _ => exact q.elim
    | ins _ _ => exact q.elim
  | _ => exact q.elim
theorem GE.getQ {d : D} {v : V} {k : List D → M β} (s : RS X.K ρ Z H X.mg S) (r : RV X.K ρ Z H d v) (q : GE X W Z σ ρ H (Py.bnd (Py.getQ d) k S) Q) :
    ∃ ds a xs, v = .ref a ∧ (SqL X.K H a xs ∨ SqT X.K H a xs) ∧ RVs X.K ρ Z H ds xs ∧ GE X W Z σ ρ H (k ds S) Q := by
  cases d with
  | tup ds =>
    obtain ⟨a, xs, e, h2, h3⟩ := RV.tup.mp r
    exact ⟨ds, a, xs, e, .inr h2, h3, q⟩
  | rol ds =>
    obtain ⟨ds, a, xs, e, h2, h3, q⟩ := GE.getL s r (show GE X W Z σ ρ H (Py.bnd (Py.getL (.rol ds)) k S) Q from q)
    exact ⟨ds, a, xs, e, .inl h2, h3, q⟩
  | frz ds =>
    obtain ⟨ds, a, xs, e, h2, h3, q⟩ := GE.getL s r (show GE X W Z σ ρ H (Py.bnd (Py.getL (.frz ds)) k S) Q from q)
    exact ⟨ds, a, xs, e, .inl h2, h3, q⟩
  | obj n =>
    obtain ⟨ds, a, xs, e, h2, h3, q⟩ := GE.getL s r (show GE X W Z σ ρ H (Py.bnd (Py.getL (.obj n)) k S) Q from q)
    exact ⟨ds, a, xs, e, .inl h2, h3, q⟩
  | _ => exact q.elim
end

/-! ### ints, texts, tuples, lists: + - * // % ** -/
def dAdd (o : Bool) : D → D → M D
  | .int i, .int j => giv (.int (i + j))
  | .str a, .str b => small (a.length + b.length) (giv (.str (a ++ b)))
  | .tup ds, .tup es => small (ds.length + es.length) (giv (.tup (ds ++ es)))
  | .int i, .bl k => giv (.int (i + b2i k))
  | .rol ds, .rol es => small (ds.length + es.length) (mkL o (ds ++ es))
  | .rol ds, .obj m => fun S => bnd (lstO S[m]?) (fun es => small (ds.length + es.length) (mkL o (ds ++ es))) S
  | .obj n, .rol es => fun S => bnd (lstO S[n]?) (fun ds => small (ds.length + es.length) (mkL o (ds ++ es))) S
  | .obj n, .obj m => fun S => bnd (lstO S[n]?) (fun ds => bnd (lstO S[m]?) (fun es => small (ds.length + es.length) (mkL o (ds ++ es)))) S
  | _, _ => fail
def dSub : D → D → M D
  | .int i, .int j => giv (.int (i - j))
  | _, _ => fail
/-- // by any divisor but 0 -/
def CDivZ (_ j : Int) : Prop := j ≠ 0 ∧ j.natAbs.log2 < 9000
instance decMulW (i j : Int) : Decidable (CMulW i j) := inferInstanceAs (Decidable (i.natAbs.log2 + j.natAbs.log2 < 1000000))
instance decDivZ (i j : Int) : Decidable (CDivZ i j) := inferInstanceAs (Decidable (j ≠ 0 ∧ j.natAbs.log2 < 9000))
instance decPow (i j : Int) : Decidable (CPow i j) := inferInstanceAs (Decidable (0 ≤ j ∧ j ≤ 1000000 ∧ i.natAbs < 2 ^ 64))
def dMul : D → D → M D
  | .int i, .int j => need (CMulW i j) (giv (.int (i * j)))
  | _, _ => fail
def dDiv : D → D → M D
  | .int i, .int j => need (CDivZ i j) (giv (.int (i.fdiv j)))
  | _, _ => fail
def dMod : D → D → M D
  | .int i, .int j => need (j ≠ 0) (giv (.int (i.fmod j)))
  | _, _ => fail
def dPow : D → D → M D
  | .int i, .int j => need (CPow i j) (giv (.int (i ^ j.toNat)))
  | _, _ => fail
def dNeg : D → M D
  | .int i => giv (.int (-i))
  | _ => fail
/-- ints compared -/
def dCmp (p : Int → Int → Bool) : D → D → M D
  | .int i, .int j => giv (.bl (p i j))
  | _, _ => fail
/-- == of plain things -/
def dEq : D → D → M D
  | .non, .non => giv (.bl true)
  | .non, .int _ => giv (.bl false) | .int _, .non => giv (.bl false)
  | .non, .bl _ => giv (.bl false) | .bl _, .non => giv (.bl false)
  | .non, .str _ => giv (.bl false) | .str _, .non => giv (.bl false)
  | .int i, .int j => giv (.bl (decide (i = j)))
  | .bl i, .bl j => giv (.bl (decide (i = j)))
  | .str i, .str j => giv (.bl (decide (i = j)))
  | .int _, .str _ => giv (.bl false) | .str _, .int _ => giv (.bl false)
  | .bl _, .str _ => giv (.bl false) | .str _, .bl _ => giv (.bl false)
  | _, _ => fail
def dNe (x y : D) : M D := bnd (dEq x y) fun r => match r with
  | .bl b => giv (.bl (!b))
  | _ => fail
def isNon : D → Bool
  | .non => true
  | _ => false
def dIs : D → D → M D
  | x, .non => giv (.bl (isNon x))
  | _, _ => fail
def dIsNot : D → D → M D
  | x, .non => giv (.bl (!isNon x))
  | _, _ => fail
section
variable {X : Cx} {W : WX} {pos : Pos} {a b c e : Expr} {ma mb mc : ME}
theorem op_fdivZ : OpR X (binaryOp .FloorDiv) (rI CDivZ fun i j => .int (i.fdiv j)) := opI fun i j _ _ _ _ _ hc q => floordiv_int hc.1 q (.inl (PyProof.noPylong_of_log2 hc.2))
theorem GE.lstO {ρ : List Addr} {Z : Zt} {H : Hp} {S : Store} {σ : L2.St} {β : Type} {Q : β → Store → List Addr → Hp → Prop} {n : Nat} {a : Addr} {k : List D → M β} (s : RS X.K ρ Z H X.mg S) (h1 : ρ[n]? = some a) (q : GE X W Z σ ρ H (Py.bnd (Py.lstO S[n]?) k S) Q) :
    ∃ ds xs, S[n]? = some (.lst ds) ∧ H a = some (.lst xs) ∧ RVs X.K ρ Z H ds xs ∧ GE X W Z σ ρ H (k ds S) Q := by
  obtain ⟨o, u, e1, e2, e3⟩ := s.there h1
  rw [e1] at q
  cases o with
  | lst ds =>
    obtain ⟨xs, h2, h3⟩ := e2
    exact ⟨ds, xs, e1, h2, h3, q⟩
  | dct _ => exact q.elim
  | ins _ _ => exact q.elim
theorem nil_len {ds : List D} {xs : List V} {K : PySem.W.Frag} {ρ : List Addr} {Z : Zt} {H : Hp} (h : RVs K ρ Z H ds xs) (e : xs = []) : ds = [] := by
  have := h.length
  subst e
  exact List.length_eq_zero_iff.mp this.symm
abbrev rAdds (K : PySem.W.Frag) : R2 := fun x y H Q => (∃ i j, x = .int i ∧ y = .int j ∧ Q (.int (i + j)) H) ∨ (∃ i j, x = .str i ∧ y = .str j ∧ i.length + j.length ≤ sizeLine ∧ Q (.str (i ++ j)) H) ∨
  (rCatA K x y H Q) ∨ (∃ i k, x = .int i ∧ y = .bl k ∧ Q (.int (i + b2i k)) H) ∨ rCat x y H Q
theorem op_adds : OpR X (binaryOp .Add) (rAdds X.K) := OpR.or op_add (OpR.or op_add_str (OpR.or op_catA (OpR.or op_add_ib op_cat)))
theorem o2_add (o : Bool) : O2 X W (rAdds X.K) (dAdd o) := by
  intro Z σ ρ H S x y v u Q s rv ru q
  cases x with
  | int i =>
    cases y with
    | int j => rw [RV.int.mp rv, RV.int.mp ru]; exact .inl ⟨i, j, rfl, rfl, q.giv s _ (RV.int.mpr rfl)⟩
    | bl k => rw [RV.int.mp rv, RV.bl.mp ru]; exact .inr (.inr (.inr (.inl ⟨i, k, rfl, rfl, q.giv s _ (RV.int.mpr rfl)⟩)))
    | _ => exact q.elim
  | str x =>
    cases y with
    | str y =>
      rw [RV.str.mp rv, RV.str.mp ru]
      obtain ⟨c, q⟩ := q.need
      exact .inr (.inl ⟨x, y, rfl, rfl, c, q.giv s _ (RV.str.mpr rfl)⟩)
    | _ => exact q.elim
  | tup ds =>
    cases y with
    | tup es =>
      obtain ⟨a, xs, rfl, h2, h3⟩ := RV.tup.mp rv
      obtain ⟨b, ys, rfl, g2, g3⟩ := RV.tup.mp ru
      obtain ⟨c, q⟩ := q.need
      refine .inr (.inr (.inl ⟨a, b, xs, ys, rfl, rfl, h2, g2, by rw [h3.length, g3.length]; exact c, fun z => ?_, fun _ z => ?_, fun _ _ p hp => ?_⟩))
      · have e := nil_len h3 z
        subst e
        exact q.giv s _ ru
      · have e := nil_len g3 z
        subst e
        have q' := q.giv s _ (by rw [List.append_nil]; exact rv)
        exact q'
      · exact new_tup s (h3.append g3) q hp
    | _ => exact q.elim
  | rol ds =>
    obtain ⟨a, xs, rfl, h2, h3⟩ := RV.rol.mp rv
    cases y with
    | rol es =>
      obtain ⟨b, ys, rfl, g2, g3⟩ := RV.rol.mp ru
      obtain ⟨c, q⟩ := q.need
      exact .inr (.inr (.inr (.inr ⟨a, b, xs, ys, rfl, rfl, h2.1, g2.1, by rw [h3.length, g3.length]; exact c, fun p hp => new_lst s (h3.append g3) q hp⟩)))
    | obj m =>
      obtain ⟨b, g1, rfl⟩ := RV.obj.mp ru
      obtain ⟨es, ys, e1, g2, g3, q⟩ := GE.lstO s g1 q
      obtain ⟨c, q⟩ := q.need
      exact .inr (.inr (.inr (.inr ⟨a, b, xs, ys, rfl, rfl, h2.1, g2, by rw [h3.length, g3.length]; exact c, fun p hp => new_lst s (h3.append g3) q hp⟩)))
    | _ => exact q.elim
  | obj n =>
    obtain ⟨a, h1, rfl⟩ := RV.obj.mp rv
    cases y with
    | rol es =>
      obtain ⟨b, ys, rfl, g2, g3⟩ := RV.rol.mp ru
      obtain ⟨ds, xs, e1, h2, h3, q⟩ := GE.lstO s h1 q
      obtain ⟨c, q⟩ := q.need
      exact .inr (.inr (.inr (.inr ⟨a, b, xs, ys, rfl, rfl, h2, g2.1, by rw [h3.length, g3.length]; exact c, fun p hp => new_lst s (h3.append g3) q hp⟩)))
    | obj m =>
      obtain ⟨b, g1, rfl⟩ := RV.obj.mp ru
      obtain ⟨ds, xs, e1, h2, h3, q⟩ := GE.lstO s h1 q
      obtain ⟨es, ys, e1, g2, g3, q⟩ := GE.lstO s g1 q
      obtain ⟨c, q⟩ := q.need
      exact .inr (.inr (.inr (.inr ⟨a, b, xs, ys, rfl, rfl, h2, g2, by rw [h3.length, g3.length]; exact c, fun p hp => new_lst s (h3.append g3) q hp⟩)))
    | _ => exact q.elim
  | _ => exact q.elim
theorem se_add (o : Bool) (ha : SE X W a ma) (hb : SE X W b mb) : SE X W (.BinOp a .Add b pos) (m2 (dAdd o) ma mb) := se_bin op_adds (o2_add o) ha hb
theorem o2_ints {C : Int → Int → Prop} {f : Int → Int → Int} {g : D → D → M D} (h : ∀ x y, (∃ i j, x = D.int i ∧ y = D.int j) ∨ g x y = fail)
    (k : ∀ Z σ ρ H S i j Q, GE X W Z σ ρ H (g (.int i) (.int j) S) (qV X Z Q) → C i j ∧ GE X W Z σ ρ H (giv (D.int (f i j)) S) (qV X Z Q)) : O2 X W (rI C fun i j => .int (f i j)) g := by
  intro Z σ ρ H S x y v u Q s rv ru q
  rcases h x y with ⟨i, j, rfl, rfl⟩ | e
  · rw [RV.int.mp rv, RV.int.mp ru]
    obtain ⟨c, q⟩ := k _ _ _ _ _ _ _ _ q
    exact ⟨i, j, rfl, rfl, c, q.giv s _ (RV.int.mpr rfl)⟩
  · rw [e] at q
    exact q.elim
theorem rI0_of {g : Int → Int → V} {x y : V} {H : Hp} {Q : VK} (h : rI (fun _ _ => True) g x y H Q) : rI0 g x y H Q := let ⟨i, j, a, b, _, q⟩ := h; ⟨i, j, a, b, q⟩
theorem O2.imp {r r' : R2} {g : D → D → M D} (h : O2 X W r g) (k : ∀ x y H Q, r x y H Q → r' x y H Q) : O2 X W r' g := fun Z σ ρ H S x y v u Q s rv ru q => k _ _ _ _ (h Z σ ρ H S x y v u Q s rv ru q)
theorem se_sub (ha : SE X W a ma) (hb : SE X W b mb) : SE X W (.BinOp a .Sub b pos) (m2 dSub ma mb) :=
  se_bin op_sub ((o2_ints (C := fun _ _ => True) (f := fun i j => i - j) (fun x y => by cases x <;> first | exact .inr rfl | (cases y <;> first | exact .inr rfl | exact .inl ⟨_, _, rfl, rfl⟩)) fun _ _ _ _ _ _ _ _ q => ⟨trivial, q⟩).imp fun _ _ _ _ => rI0_of) ha hb
theorem se_mul (ha : SE X W a ma) (hb : SE X W b mb) : SE X W (.BinOp a .Mult b pos) (m2 dMul ma mb) :=
  se_bin op_mulW (o2_ints (C := CMulW) (f := fun i j => i * j) (fun x y => by cases x <;> first | exact .inr rfl | (cases y <;> first | exact .inr rfl | exact .inl ⟨_, _, rfl, rfl⟩)) fun _ _ _ _ _ _ _ _ q => GE.need q) ha hb
theorem se_div (ha : SE X W a ma) (hb : SE X W b mb) : SE X W (.BinOp a .FloorDiv b pos) (m2 dDiv ma mb) :=
  se_bin op_fdivZ (o2_ints (C := CDivZ) (f := fun i j => i.fdiv j) (fun x y => by cases x <;> first | exact .inr rfl | (cases y <;> first | exact .inr rfl | exact .inl ⟨_, _, rfl, rfl⟩)) fun _ _ _ _ _ _ _ _ q => GE.need q) ha hb
theorem se_mod (ha : SE X W a ma) (hb : SE X W b mb) : SE X W (.BinOp a .Mod b pos) (m2 dMod ma mb) :=
  se_bin op_modN (o2_ints (C := fun _ j => j ≠ 0) (f := fun i j => i.fmod j) (fun x y => by cases x <;> first | exact .inr rfl | (cases y <;> first | exact .inr rfl | exact .inl ⟨_, _, rfl, rfl⟩)) fun _ _ _ _ _ _ _ _ q => GE.need q) ha hb
theorem se_pow (ha : SE X W a ma) (hb : SE X W b mb) : SE X W (.BinOp a .Pow b pos) (m2 dPow ma mb) :=
  se_bin op_pow (o2_ints (C := CPow) (f := fun i j => i ^ j.toNat) (fun x y => by cases x <;> first | exact .inr rfl | (cases y <;> first | exact .inr rfl | exact .inl ⟨_, _, rfl, rfl⟩)) fun _ _ _ _ _ _ _ _ q => GE.need q) ha hb
theorem se_neg (ha : SE X W a ma) : SE X W (.UnaryOp .USub a pos) (m1 dNeg ma) := se_un un_neg (fun Z σ ρ H S x v Q s rv q => by
  cases x with
  | int i => rw [RV.int.mp rv]; exact ⟨i, rfl, q.giv s _ (RV.int.mpr rfl)⟩
  | _ => exact q.elim) ha
theorem o2_cmp {p : Int → Int → Bool} : O2 X W (rI0 fun i j => .bl (p i j)) (dCmp p) := by
  intro Z σ ρ H S x y v u Q s rv ru q
  cases x with
  | int i =>
    cases y with
    | int j => rw [RV.int.mp rv, RV.int.mp ru]; exact ⟨i, j, rfl, rfl, q.giv s _ (RV.bl.mpr rfl)⟩
    | _ => exact q.elim
  | _ => exact q.elim
theorem se_lt (ha : SE X W a ma) (hb : SE X W b mb) : SE X W (.Compare a [.Lt] [b] pos) (m2 (dCmp fun i j => decide (i < j)) ma mb) := se_cmp op_lt o2_cmp ha hb (nomark _)
theorem se_le (ha : SE X W a ma) (hb : SE X W b mb) : SE X W (.Compare a [.LtE] [b] pos) (m2 (dCmp fun i j => decide (i ≤ j)) ma mb) := se_cmp op_le o2_cmp ha hb (nomark _)
theorem se_gt (ha : SE X W a ma) (hb : SE X W b mb) : SE X W (.Compare a [.Gt] [b] pos) (m2 (dCmp fun i j => decide (j < i)) ma mb) := se_cmp op_gt o2_cmp ha hb (nomark _)
theorem se_ge (ha : SE X W a ma) (hb : SE X W b mb) : SE X W (.Compare a [.GtE] [b] pos) (m2 (dCmp fun i j => decide (j ≤ i)) ma mb) := se_cmp op_ge o2_cmp ha hb (nomark _)
theorem st_lt (ha : SE X W a ma) (hb : SE X W b mb) : ST X W (.Compare a [.Lt] [b] pos) (mB (m2 (dCmp fun i j => decide (i < j)) ma mb)) := st_cmp op_lt o2_cmp ha hb (nomark _)
theorem st_le (ha : SE X W a ma) (hb : SE X W b mb) : ST X W (.Compare a [.LtE] [b] pos) (mB (m2 (dCmp fun i j => decide (i ≤ j)) ma mb)) := st_cmp op_le o2_cmp ha hb (nomark _)
theorem st_gt (ha : SE X W a ma) (hb : SE X W b mb) : ST X W (.Compare a [.Gt] [b] pos) (mB (m2 (dCmp fun i j => decide (j < i)) ma mb)) := st_cmp op_gt o2_cmp ha hb (nomark _)
theorem st_ge (ha : SE X W a ma) (hb : SE X W b mb) : ST X W (.Compare a [.GtE] [b] pos) (mB (m2 (dCmp fun i j => decide (j ≤ i)) ma mb)) := st_cmp op_ge o2_cmp ha hb (nomark _)
theorem dEq_scal {x y : D} {S S' : Store} {r : D} (h : dEq x y S = .ok r S') {K : PySem.W.Frag} {ρ : List Addr} {Z : Zt} {H : Hp} {v u : V} (rv : RV K ρ Z H x v) (ru : RV K ρ Z H y u) : S' = S ∧ scal v u = true ∧ r = .bl (decide (v = u)) := by
  cases x <;> cases y <;> first
    | (injection h; done)
    | (first | rw [RV.non.mp rv] | rw [RV.int.mp rv] | rw [RV.bl.mp rv] | rw [RV.str.mp rv]
       first | rw [RV.non.mp ru] | rw [RV.int.mp ru] | rw [RV.bl.mp ru] | rw [RV.str.mp ru]
       injection h with e1 e2
       exact ⟨e2.symm, rfl, by rw [← e1]; simp⟩)
theorem dEq_exc {x y : D} {S S' : Store} {z : Xc} (h : dEq x y S = .exc z S') : False := by
  cases x <;> cases y <;> injection h
theorem o2_eq : O2 X W rEq dEq := by
  intro Z σ ρ H S x y v u Q s rv ru q
  cases e : dEq x y S with
  | ok r S' =>
    obtain ⟨rfl, h1, rfl⟩ := dEq_scal e rv ru
    rw [e] at q
    exact ⟨h1, q ρ H Ext.refl s _ (RV.bl.mpr rfl)⟩
  | exc z S' => exact (dEq_exc e).elim
  | stuck => rw [e] at q; exact q.elim
theorem o2_ne : O2 X W rNe dNe := by
  intro Z σ ρ H S x y v u Q s rv ru q
  cases e : dEq x y S with
  | ok r S' =>
    obtain ⟨rfl, h1, rfl⟩ := dEq_scal e rv ru
    unfold dNe Py.bnd at q
    rw [e] at q
    exact ⟨h1, GE.giv q s _ (RV.bl.mpr rfl)⟩
  | exc z S' => exact (dEq_exc e).elim
  | stuck =>
    unfold dNe Py.bnd at q
    rw [e] at q
    exact q.elim
theorem se_eq (ha : SE X W a ma) (hb : SE X W b mb) : SE X W (.Compare a [.Eq] [b] pos) (m2 dEq ma mb) := se_cmp op_eq o2_eq ha hb (nomark _)
theorem st_eq (ha : SE X W a ma) (hb : SE X W b mb) : ST X W (.Compare a [.Eq] [b] pos) (mB (m2 dEq ma mb)) := st_cmp op_eq o2_eq ha hb (nomark _)
theorem se_ne (ha : SE X W a ma) (hb : SE X W b mb) : SE X W (.Compare a [.NotEq] [b] pos) (m2 dNe ma mb) := se_cmp op_ne o2_ne ha hb (nomark _)
theorem st_ne (ha : SE X W a ma) (hb : SE X W b mb) : ST X W (.Compare a [.NotEq] [b] pos) (mB (m2 dNe ma mb)) := st_cmp op_ne o2_ne ha hb (nomark _)
theorem isNon_ok {K : PySem.W.Frag} {ρ : List Addr} {Z : Zt} {H : Hp} {x : D} {v : V} (r : RV K ρ Z H x v) : decide (v = V.non) = isNon x := by
  cases x with
  | non => rw [RV.non.mp r]; rfl
  | bl _ => rw [RV.bl.mp r]; rfl
  | int _ => rw [RV.int.mp r]; rfl
  | str _ => rw [RV.str.mp r]; rfl
  | tup _ => obtain ⟨a, xs, rfl, _⟩ := RV.tup.mp r; rfl
  | rol _ => obtain ⟨a, xs, rfl, _⟩ := RV.rol.mp r; rfl
  | frz _ => obtain ⟨a, xs, rfl, _⟩ := RV.frz.mp r; rfl
  | obj _ => obtain ⟨a, _, rfl⟩ := RV.obj.mp r; rfl
  | hot _ _ _ => obtain ⟨h, _, _, rfl, _⟩ := RV.hot.mp r; rfl
theorem o2_is : O2 X W (fun x y H Q => y = .non ∧ Q (.bl (decide (x = .non))) H) dIs := by
  intro Z σ ρ H S x y v u Q s rv ru q
  cases y with
  | non => exact ⟨RV.non.mp ru, by rw [isNon_ok rv]; exact (show GE X W Z σ ρ H (giv (.bl (isNon x)) S) (qV X Z Q) by cases x <;> exact q).giv s _ (RV.bl.mpr rfl)⟩
  | _ => cases x <;> exact q.elim
theorem o2_isnot : O2 X W (fun x y H Q => y = .non ∧ Q (.bl (!decide (x = .non))) H) dIsNot := by
  intro Z σ ρ H S x y v u Q s rv ru q
  cases y with
  | non => exact ⟨RV.non.mp ru, by rw [isNon_ok rv]; exact (show GE X W Z σ ρ H (giv (.bl (!isNon x)) S) (qV X Z Q) by cases x <;> exact q).giv s _ (RV.bl.mpr rfl)⟩
  | _ => cases x <;> exact q.elim
theorem se_is (ha : SE X W a ma) (hb : SE X W b mb) : SE X W (.Compare a [.Is] [b] pos) (m2 dIs ma mb) := se_cmp op_isN o2_is ha hb (nomark _)
theorem st_is (ha : SE X W a ma) (hb : SE X W b mb) : ST X W (.Compare a [.Is] [b] pos) (mB (m2 dIs ma mb)) := st_cmp op_isN o2_is ha hb (nomark _)
theorem se_isnot (ha : SE X W a ma) (hb : SE X W b mb) : SE X W (.Compare a [.IsNot] [b] pos) (m2 dIsNot ma mb) := se_cmp op_notN o2_isnot ha hb (nomark _)
theorem st_isnot (ha : SE X W a ma) (hb : SE X W b mb) : ST X W (.Compare a [.IsNot] [b] pos) (mB (m2 dIsNot ma mb)) := st_cmp op_notN o2_isnot ha hb (nomark _)

/-! ### items, slices -/
def dIx : D → D → M D
  | .str z, .int i => need (z.length ≤ sizeLine) (opt (atI z.cps.toList i) fun c => giv (.str ⟨#[c]⟩))
  | x, .int i => bnd (getQ x) fun ds => opt (atI ds i) giv
  | _, _ => fail
theorem atI_rv {K : PySem.W.Frag} {ρ : List Addr} {Z : Zt} {H : Hp} {ds : List D} {xs : List V} {i : Int} {d : D} (h : RVs K ρ Z H ds xs) (e : atI ds i = some d) : ∃ v, atI xs i = some v ∧ RV K ρ Z H d v := by
  unfold atI at e ⊢
  rw [h.length]
  cases c : ixN ds.length i with
  | none => rw [c] at e; cases e
  | some j =>
    rw [c] at e
    exact h.get e
theorem o2_ix : O2 X W (rIx X.K) dIx := by
  intro Z σ ρ H S x y v u Q s rv ru q
  have seq : ∀ i, y = .int i → (∀ z, x ≠ .str z) → rIx X.K v u H Q := fun i hy hx => by
    subst hy
    rw [RV.int.mp ru]
    have q' : GE X W Z σ ρ H (bnd (getQ x) (fun ds => opt (atI ds i) giv) S) (qV X Z Q) := by
      cases x with
      | str z => exact absurd rfl (hx z)
      | _ => exact q
    obtain ⟨ds, a, xs, rfl, h2, h3, q2⟩ := q'.getQ s rv
    obtain ⟨d, e, q3⟩ := q2.opt
    obtain ⟨w, e2, r2⟩ := atI_rv h3 e
    rcases h2 with h2 | h2
    · exact .inl ⟨a, xs, i, w, rfl, rfl, h2, e2, q3.giv s _ r2⟩
    · exact .inr (.inl ⟨a, xs, i, w, rfl, rfl, h2, e2, q3.giv s _ r2⟩)
  cases y with
  | int i =>
    cases x with
    | str z =>
      rw [RV.str.mp rv, RV.int.mp ru]
      obtain ⟨c, q⟩ := GE.need q
      obtain ⟨ch, e, q⟩ := q.opt
      exact .inr (.inr ⟨z, i, ch, rfl, rfl, c, e, q.giv s _ (RV.str.mpr rfl)⟩)
    | _ => exact seq i rfl fun z => by simp
  | _ => cases x <;> exact q.elim
theorem se_ix (ha : SE X W a ma) (hb : SE X W b mb) (hs : PlainIx b := by exact fun _ _ => rfl) : SE X W (.Subscript a b pos) (m2 dIx ma mb) :=
  PE.imp (pe_ix ix_seq ha hb hs) fun _ _ _ q => m2_ok o2_ix q
/-- a part of a slice -/
abbrev MO := Env → M (Option Int)
def rdO (X : Cx) (W : WX) (m : MO) : TO := fun σ H Q => ∃ Z ρ env S, At X Z ρ H S env σ ∧ GE X W Z σ ρ H (m env S) (fun o _ _ H' => Q o H')
def SO (X : Cx) (W : WX) (e : Option Expr) (m : MO) : Prop := PO X e (rdO X W m)
def moNone (_ : Env) (S : Store) : Res (Option Int) := .ok none S
def asI : D → M (Option Int)
  | .int i => giv (some i)
  | _ => fail
def moSome (ma : ME) (env : Env) (S : Store) : Res (Option Int) := (bnd (ma env) asI) S
theorem PO.imp {e : Option Expr} {t t' : TO} (h : PO X e t) (k : ∀ σ H Q, t' σ H Q → t σ H Q) : PO X e t' := by
  obtain ⟨h⟩ := h
  exact ⟨fun pins s σ H Q I q => h pins s σ H Q I (k σ H Q q)⟩
theorem so_none : SO X W none moNone := PO.imp po_none fun σ H Q ⟨Z, ρ, env, S, a, q⟩ => q.giv a.rs
theorem so_some (ha : SE X W a ma) : SO X W (some a) (moSome ma) := by
  refine PO.imp (po_some ha) fun σ H Q ⟨Z, ρ, env, S, a, q⟩ => ?_
  refine a.first q fun ρ1 H1 S1 x v a1 e1 rv q1 => ?_
  cases x with
  | int i => exact ⟨i, RV.int.mp rv, q1.giv a1.rs⟩
  | _ => exact q1.elim
theorem At.firstO {Z : Zt} {σ : L2.St} {ρ : List Addr} {H : Hp} {S : Store} {env : Env} {β : Type} (a : At X Z ρ H S env σ) {m : MO} {k : Option Int → M β} {Q' : β → Store → List Addr → Hp → Prop} {Q : Option Int → Hp → Prop} (h : GE X W Z σ ρ H (Py.bnd (m env) k S) Q')
    (n : ∀ ρ' H' S' o, At X Z ρ' H' S' env σ → Ext Z ρ H ρ' H' → GE X W Z σ ρ' H' (k o S') Q' → Q o H') : rdO X W m σ H Q :=
  ⟨Z, ρ, env, S, a, h.bnd.imp fun d S' ρ' H' e s g => n ρ' H' S' d (a.ext e s) e g⟩
def cutD (xs : List D) (lo hi : Option Int) : List D := (xs.drop (HT.sIx xs.length 0 lo)).take (HT.sIx xs.length xs.length hi - HT.sIx xs.length 0 lo)
theorem cutD_rv {K : PySem.W.Frag} {ρ : List Addr} {Z : Zt} {H : Hp} {ds : List D} {xs : List V} (h : RVs K ρ Z H ds xs) (lo hi : Option Int) : RVs K ρ Z H (cutD ds lo hi) (cutV xs lo hi) := by
  unfold cutD cutV
  rw [h.length]
  exact (h.drop _).take _
def dSl (o : Bool) : D → Option Int → Option Int → M D
  | .str z, lo, hi => need (z.length ≤ sizeLine) (giv (.str (cutS z lo hi)))
  | .tup ds, lo, hi => giv (.tup (cutD ds lo hi))
  | x, lo, hi => bnd (getL x) fun ds => mkL o (cutD ds lo hi)
def mSl (o : Bool) (ma : ME) (ml mh : MO) (env : Env) (S : Store) : Res D := (bnd (ma env) fun x => bnd (ml env) fun l => bnd (mh env) fun h => dSl o x l h) S
theorem cutD_all {ds : List D} {lo hi : Option Int} (h : HT.sIx ds.length 0 lo = 0 ∧ HT.sIx ds.length ds.length hi = ds.length) : cutD ds lo hi = ds := by
  unfold cutD
  rw [h.1, h.2]
  simp
theorem se_sl (o : Bool) {lo hi : Option Expr} {p2 : Pos} {ml mh : MO} (ha : SE X W a ma) (hl : SO X W lo ml) (hh : SO X W hi mh) : SE X W (.Subscript a (.Slice lo hi none p2) pos) (mSl o ma ml mh) := by
  refine PE.imp (pe_slice (SlR.or sl_str (SlR.or sl_tupA sl_list)) ha hl hh) fun σ H Q ⟨Z, ρ, env, S, a, q⟩ => ?_
  refine a.first q fun ρ1 H1 S1 x v a1 e1 rv q1 => ?_
  refine a1.firstO q1 fun ρ2 H2 S2 l a2 e2 q2 => ?_
  refine a2.firstO q2 fun ρ3 H3 S3 h a3 e3 q3 => ?_
  have rv := rv.ext (e2.trans e3)
  have lst : (∀ z, x ≠ .str z) → (∀ ds, x ≠ .tup ds) → rSlL X.K v l h H3 Q := fun n1 n2 => by
    have q' : GE X W Z σ ρ3 H3 (bnd (getL x) (fun ds => mkL o (cutD ds l h)) S3) (qV X Z Q) := by
      cases x with
      | str z => exact absurd rfl (n1 z)
      | tup ds => exact absurd rfl (n2 ds)
      | _ => exact q3
    obtain ⟨ds, a, xs, rfl, h2, h3, q4⟩ := q'.getL a3.rs rv
    exact ⟨a, xs, rfl, h2, fun p hp => new_lst a3.rs (cutD_rv h3 l h) q4 hp⟩
  cases x with
  | str z =>
    rw [RV.str.mp rv]
    obtain ⟨c, q⟩ := GE.need q3
    exact .inl ⟨z, rfl, c, q.giv a3.rs _ (RV.str.mpr rfl)⟩
  | tup ds =>
    obtain ⟨a, xs, rfl, h2, h3⟩ := RV.tup.mp rv
    have q3 : GE X W Z σ ρ3 H3 (giv (.tup (cutD ds l h)) S3) (qV X Z Q) := q3
    refine .inr (.inl ⟨a, xs, rfl, h2, fun z => ?_, fun _ p hp => new_tup a3.rs (cutD_rv h3 l h) q3 hp⟩)
    rw [h3.length] at z
    rw [cutD_all z] at q3
    exact q3.giv a3.rs _ rv
  | _ => exact .inr (.inr (lst (fun z => by simp) fun ds => by simp))

/-! ### built-ins -/
/-- g is what the built-in does to data -/
def OC (X : Cx) (W : WX) (r : List V → Hp → VK → Prop) (g : MF) : Prop := ∀ Z σ ρ H S ds vs Q, RS X.K ρ Z H X.mg S → RVs X.K ρ Z H ds vs → GE X W Z σ ρ H (g ds S) (qV X Z Q) → r vs H Q
def mF (g : MF) (mas : MA) (env : Env) (S : Store) : Res D := (bnd (mas env) g) S
variable {es : List Expr} {mas : MA} {p : Pos} {x : Str} {id T : String} {r : List V → Hp → VK → Prop} {g : MF}
theorem mF_ok (h : OC X W r g) {σ : L2.St} {H : Hp} {Q : VK} (q : rd X W (mF g mas) σ H Q) : tCB r (rdA X W mas) σ H Q := by
  obtain ⟨Z, ρ, env, S, a, q⟩ := q
  exact a.firstA q fun ρ1 H1 S1 xs vs a1 e1 rvs q1 => h Z σ ρ1 H1 S1 xs vs Q a1.rs rvs q1
theorem se_cb (hc : CallR X (.builtin id) r) (h : OC X W r g) (hg : Gl X x) (hm : X.mg x = none) (hv : bootBuiltins x = some (.builtin id)) (ha : SA X W (e :: es) mas) (hn : x ≠ "__name__" := by decide) (hdb : (x == ("__debug__" : Str)) = false := by decide)
    (he : starEach (e :: es) X.env = (false, eval e X.env) :: starEach es X.env := by rfl) (hpl : (backTo pos (starEach es X.env)).any (·.1) = false := by rfl) : SE X W (.Call (.Name x p) (e :: es) [] pos) (mF g mas) :=
  PE.imp (pe_callB hc hg hm hv ha hn hdb he hpl) fun _ _ _ q => mF_ok h q
theorem se_ct (hc : CallR X (.type T) r) (h : OC X W r g) (hg : Gl X x) (hm : X.mg x = none) (hv : bootBuiltins x = some (.type T)) (ha : SA X W (e :: es) mas) (hn : x ≠ "__name__" := by decide) (hdb : (x == ("__debug__" : Str)) = false := by decide)
    (he : starEach (e :: es) X.env = (false, eval e X.env) :: starEach es X.env := by rfl) (hpl : (backTo pos (starEach es X.env)).any (·.1) = false := by rfl) : SE X W (.Call (.Name x p) (e :: es) [] pos) (mF g mas) :=
  PE.imp (pe_callTy hc hg hm hv ha hn hdb he hpl) fun _ _ _ q => mF_ok h q
/-- a function of another module, by its name here -/
theorem se_cbf (hc : CallR X (.builtin id) r) (h : OC X W r g) (hg : Gl X x) (hm : X.mg x = some (.builtin id)) (ha : SA X W (e :: es) mas) (hdb : (x == ("__debug__" : Str)) = false := by decide)
    (he : starEach (e :: es) X.env = (false, eval e X.env) :: starEach es X.env := by rfl) (hpl : (backTo pos (starEach es X.env)).any (·.1) = false := by rfl) : SE X W (.Call (.Name x p) (e :: es) [] pos) (mF g mas) :=
  PE.imp (pe_callBfun hc hg hm ha hdb he hpl) fun _ _ _ q => mF_ok h q
def gAbs : MF
  | [.int i] => giv (.int (if i < 0 then -i else i))
  | _ => fail
def gMax2 : MF
  | [.int i, .int j] => giv (.int (if j > i then j else i))
  | _ => fail
def gMin2 : MF
  | [.int i, .int j] => giv (.int (if j < i then j else i))
  | _ => fail
def gInt : MF
  | [.int i] => giv (.int i)
  | [.bl k] => giv (.int (if k then 1 else 0))
  | [.str a] => opt (PySem.intText? a) fun n => need (a.length ≤ 640) (giv (.int n))
  | _ => fail
def gGcd : MF
  | [.int i, .int j] => giv (.int ((Nat.gcd i.natAbs j.natAbs : Nat) : Int))
  | _ => fail
def gLen : MF
  | [.str z] => need (z.length ≤ sizeLine) (giv (.int z.length))
  | [d] => bnd (getQ d) fun ds => giv (.int ds.length)
  | _ => fail
def gList (o : Bool) : MF
  | [d] => bnd (getQ d) fun ds => mkL o ds
  | _ => fail
def gTuple : MF
  | [d] => bnd (getQ d) fun ds => giv (.tup ds)
  | _ => fail
theorem rvs1 {K : PySem.W.Frag} {ρ : List Addr} {Z : Zt} {H : Hp} {d : D} {vs : List V} (h : RVs K ρ Z H [d] vs) : ∃ v, vs = [v] ∧ RV K ρ Z H d v := by
  obtain ⟨v, r, rfl, h1, h2⟩ := RVs.cons.mp h
  exact ⟨v, by rw [RVs.nil.mp h2], h1⟩
theorem rvs2 {K : PySem.W.Frag} {ρ : List Addr} {Z : Zt} {H : Hp} {d e : D} {vs : List V} (h : RVs K ρ Z H [d, e] vs) : ∃ v w, vs = [v, w] ∧ RV K ρ Z H d v ∧ RV K ρ Z H e w := by
  obtain ⟨v, r, rfl, h1, h2⟩ := RVs.cons.mp h
  obtain ⟨w, rfl, h3⟩ := rvs1 h2
  exact ⟨v, w, rfl, h1, h3⟩
theorem oc_int1 {f : Int → D} {g : MF} {r : List V → Hp → VK → Prop} (hf : ∀ ds, (∃ i, ds = [D.int i]) ∨ g ds = fail) (hg : ∀ i, g [.int i] = giv (f i)) (hr : ∀ i w H Q K ρ Z, RV K ρ Z H (f i) w → Q w H → r [.int i] H Q) (hx : ∀ i, ∃ w, ∀ K ρ Z H, RV K ρ Z H (f i) w) : OC X W r g := by
  intro Z σ ρ H S ds vs Q s rs q
  rcases hf ds with ⟨i, rfl⟩ | e
  · obtain ⟨v, rfl, h1⟩ := rvs1 rs
    rw [RV.int.mp h1]
    rw [hg] at q
    obtain ⟨w, hw⟩ := hx i
    exact hr i w H Q X.K ρ Z (hw _ _ _ _) (q.giv s w (hw _ _ _ _))
  · rw [e] at q
    exact q.elim
theorem oc_abs : OC X W (fun xs H Q => ∃ i, xs = [.int i] ∧ Q (.int (if i < 0 then -i else i)) H) gAbs := by
  intro Z σ ρ H S ds vs Q s rs q
  match ds, q with
  | [.int i], q =>
    obtain ⟨v, rfl, h1⟩ := rvs1 rs
    rw [RV.int.mp h1]
    exact ⟨i, rfl, q.giv s _ (RV.int.mpr rfl)⟩
theorem oc_max2 : OC X W (fun xs H Q => ∃ i j, xs = [.int i, .int j] ∧ Q (.int (if j > i then j else i)) H) gMax2 := by
  intro Z σ ρ H S ds vs Q s rs q
  match ds, q with
  | [.int i, .int j], q =>
    obtain ⟨v, w, rfl, h1, h2⟩ := rvs2 rs
    rw [RV.int.mp h1, RV.int.mp h2]
    exact ⟨i, j, rfl, q.giv s _ (RV.int.mpr rfl)⟩
theorem oc_min2 : OC X W (fun xs H Q => ∃ i j, xs = [.int i, .int j] ∧ Q (.int (if j < i then j else i)) H) gMin2 := by
  intro Z σ ρ H S ds vs Q s rs q
  match ds, q with
  | [.int i, .int j], q =>
    obtain ⟨v, w, rfl, h1, h2⟩ := rvs2 rs
    rw [RV.int.mp h1, RV.int.mp h2]
    exact ⟨i, j, rfl, q.giv s _ (RV.int.mpr rfl)⟩
theorem CallR.or {f : Value} {r1 r2 : List V → Hp → VK → Prop} (h1 : CallR X f r1) (h2 : CallR X f r2) : CallR X f (fun xs H Q => r1 xs H Q ∨ r2 xs H Q) := fun pins s σ H xs us Q I r q => q.elim (h1 pins s σ H xs us Q I r) (h2 pins s σ H xs us Q I r)
theorem oc_int : OC X W (fun xs H Q => ((∃ i, xs = [.int i] ∧ Q (.int i) H) ∨ ∃ k, xs = [.bl k] ∧ Q (.int (if k then 1 else 0)) H) ∨ ∃ a n, xs = [.str a] ∧ PySem.intText? a = some n ∧ a.length ≤ 640 ∧ Q (.int n) H) gInt := by
  intro Z σ ρ H S ds vs Q s rs q
  unfold gInt at q
  split at q
  · obtain ⟨v, rfl, h1⟩ := rvs1 rs
    rw [RV.int.mp h1]
    exact .inl (.inl ⟨_, rfl, q.giv s _ (RV.int.mpr rfl)⟩)
  · obtain ⟨v, rfl, h1⟩ := rvs1 rs
    rw [RV.bl.mp h1]
    exact .inl (.inr ⟨_, rfl, q.giv s _ (RV.int.mpr rfl)⟩)
  · obtain ⟨v, rfl, h1⟩ := rvs1 rs
    rw [RV.str.mp h1]
    obtain ⟨n, e, q⟩ := GE.opt q
    obtain ⟨c, q⟩ := GE.need q
    exact .inr ⟨_, n, rfl, e, c, q.giv s _ (RV.int.mpr rfl)⟩
  · exact q.elim
theorem oc_gcd : OC X W rGcd gGcd := by
  intro Z σ ρ H S ds vs Q s rs q
  match ds, q with
  | [.int i, .int j], q =>
    obtain ⟨v, w, rfl, h1, h2⟩ := rvs2 rs
    rw [RV.int.mp h1, RV.int.mp h2]
    exact ⟨i, j, rfl, q.giv s _ (RV.int.mpr rfl)⟩
theorem oc_len : OC X W (fun xs H Q => ∃ x n, xs = [x] ∧ LenV X.K x H n ∧ Q (.int n) H) gLen := by
  intro Z σ ρ H S ds vs Q s rs q
  cases ds with
  | nil => exact q.elim
  | cons d r =>
    cases r with
    | cons e r => cases d <;> exact q.elim
    | nil =>
      obtain ⟨v, rfl, h1⟩ := rvs1 rs
      have seq : (∀ z, d ≠ .str z) → ∃ x n, [v] = [x] ∧ LenV X.K x H n ∧ Q (.int n) H := fun n1 => by
        have q' : GE X W Z σ ρ H (bnd (getQ d) (fun ds => giv (.int ds.length)) S) (qV X Z Q) := by
          cases d with
          | str z => exact absurd rfl (n1 z)
          | _ => exact q
        obtain ⟨ds, a, xs, rfl, h2, h3, q2⟩ := q'.getQ s h1
        refine ⟨.ref a, ds.length, rfl, ?_, q2.giv s _ (RV.int.mpr rfl)⟩
        rcases h2 with h2 | h2
        · exact .inl ⟨xs, h2, h3.length.symm⟩
        · exact .inr ⟨xs, h2, h3.length.symm⟩
      cases d with
      | str z =>
        rw [RV.str.mp h1]
        obtain ⟨c, q⟩ := GE.need q
        exact ⟨.str z, _, rfl, ⟨c, rfl⟩, q.giv s _ (RV.int.mpr rfl)⟩
      | _ => exact seq fun z => by simp
theorem oc_list (o : Bool) : OC X W (fun xs H Q => ∃ p ys, xs = [.ref p] ∧ (SqL X.K H p ys ∨ SqT X.K H p ys) ∧ ∀ l, H l = none → Q (.ref l) (upd H l (.lst ys))) (gList o) := by
  intro Z σ ρ H S ds vs Q s rs q
  match ds, q with
  | [d], q =>
    obtain ⟨v, rfl, h1⟩ := rvs1 rs
    obtain ⟨ds, a, xs, rfl, h2, h3, q2⟩ := q.getQ s h1
    exact ⟨a, xs, rfl, h2, fun l hl => new_lst s h3 q2 hl⟩
theorem oc_tuple : OC X W (fun xs H Q => ∃ p ys, xs = [.ref p] ∧ ((SqL X.K H p ys ∧ ∀ l, H l = none → Q (.ref l) (upd H l (.tup ys))) ∨ (SqT X.K H p ys ∧ Q (.ref p) H))) gTuple := by
  intro Z σ ρ H S ds vs Q s rs q
  match ds, q with
  | [d], q =>
    obtain ⟨v, rfl, h1⟩ := rvs1 rs
    obtain ⟨ds, a, xs, rfl, h2, h3, q2⟩ := q.getQ s h1
    refine ⟨a, xs, rfl, ?_⟩
    rcases h2 with h2 | h2
    · exact .inl ⟨h2, fun l hl => new_tup s h3 q2 hl⟩
    · exact .inr ⟨h2, q2.giv s _ (RV.tup.mpr ⟨a, xs, rfl, h2, h3⟩)⟩
theorem se_abs (hg : Gl X "abs" := by rfl) (hm : X.mg "abs" = none) (ha : SA X W [e] mas) (he : starEach [e] X.env = (false, eval e X.env) :: starEach [] X.env := by rfl) : SE X W (.Call (.Name "abs" p) [e] [] pos) (mF gAbs mas) := se_cb call_abs oc_abs hg hm (by decide +kernel) ha (he := he)
theorem se_int_of (hg : Gl X "int" := by rfl) (hm : X.mg "int" = none) (ha : SA X W [e] mas) (he : starEach [e] X.env = (false, eval e X.env) :: starEach [] X.env := by rfl) : SE X W (.Call (.Name "int" p) [e] [] pos) (mF gInt mas) := se_ct (CallR.or call_int1 call_int_str) oc_int hg hm (by decide +kernel) ha (he := he)
theorem se_len (hg : Gl X "len" := by rfl) (hm : X.mg "len" = none) (ha : SA X W [e] mas) (he : starEach [e] X.env = (false, eval e X.env) :: starEach [] X.env := by rfl) : SE X W (.Call (.Name "len" p) [e] [] pos) (mF gLen mas) := se_cb call_len oc_len hg hm (by decide +kernel) ha (he := he)
theorem se_list (o : Bool) (hg : Gl X "list" := by rfl) (hm : X.mg "list" = none) (ha : SA X W [e] mas) (he : starEach [e] X.env = (false, eval e X.env) :: starEach [] X.env := by rfl) : SE X W (.Call (.Name "list" p) [e] [] pos) (mF (gList o) mas) := se_ct call_list_of (oc_list o) hg hm (by decide +kernel) ha (he := he)
theorem se_tuple (hg : Gl X "tuple" := by rfl) (hm : X.mg "tuple" = none) (ha : SA X W [e] mas) (he : starEach [e] X.env = (false, eval e X.env) :: starEach [] X.env := by rfl) : SE X W (.Call (.Name "tuple" p) [e] [] pos) (mF gTuple mas) := se_ct call_tuple_of oc_tuple hg hm (by decide +kernel) ha (he := he)
variable {e2 : Expr}
theorem se_max2 (hc : X.calm = true := by rfl) (hg : Gl X "max" := by rfl) (hm : X.mg "max" = none) (ha : SA X W [e, e2] mas) (he : starEach [e, e2] X.env = (false, eval e X.env) :: starEach [e2] X.env := by rfl) (hpl : (backTo pos (starEach [e2] X.env)).any (·.1) = false := by rfl) :
    SE X W (.Call (.Name "max" p) [e, e2] [] pos) (mF gMax2 mas) := se_cb (call_max2 hc) oc_max2 hg hm (by decide +kernel) ha (he := he) (hpl := hpl)
theorem se_min2 (hc : X.calm = true := by rfl) (hg : Gl X "min" := by rfl) (hm : X.mg "min" = none) (ha : SA X W [e, e2] mas) (he : starEach [e, e2] X.env = (false, eval e X.env) :: starEach [e2] X.env := by rfl) (hpl : (backTo pos (starEach [e2] X.env)).any (·.1) = false := by rfl) :
    SE X W (.Call (.Name "min" p) [e, e2] [] pos) (mF gMin2 mas) := se_cb (call_min2 hc) oc_min2 hg hm (by decide +kernel) ha (he := he) (hpl := hpl)
theorem se_gcd (hg : Gl X "gcd" := by rfl) (hm : X.mg "gcd" = some (.builtin "math.gcd")) (ha : SA X W [e, e2] mas) (he : starEach [e, e2] X.env = (false, eval e X.env) :: starEach [e2] X.env := by rfl) (hpl : (backTo pos (starEach [e2] X.env)).any (·.1) = false := by rfl) :
    SE X W (.Call (.Name "gcd" p) [e, e2] [] pos) (mF gGcd mas) := se_cbf cr_gcd oc_gcd hg hm ha (he := he) (hpl := hpl)

/-! ### isinstance of a built-in type -/
/-- a datum's type -/
def tyD : D → Store → Option String
  | .non, _ => some "NoneType"
  | .bl _, _ => some "bool"
  | .int _, _ => some "int"
  | .str _, _ => some "str"
  | .tup _, _ => some "tuple"
  | .rol _, _ => some "list"
  | .frz _, _ => some "list"
  | .obj n, S => match S[n]? with
    | some (.lst _) => some "list"
    | some (.dct _) => some "dict"
    | _ => none
  | .hot _ _ _, _ => none
def mIsi (T : String) (ma : ME) (env : Env) (S : Store) : Res D := (bnd (ma env) fun x S => match (tyD x S).bind (fun t => kitB t T) with
  | some b => .ok (.bl b) S
  | none => .stuck) S
theorem tyD_ok {ρ : List Addr} {Z : Zt} {H : Hp} {S : Store} {d : D} {v : V} {t : String} (s : RS X.K ρ Z H X.mg S) (r : RV X.K ρ Z H d v) (e : tyD d S = some t) : TyX X.K H v (.type t) := by
  cases d with
  | hot _ _ _ => cases e
  | non => cases e; rw [RV.non.mp r]; exact .base .non
  | bl b => cases e; rw [RV.bl.mp r]; exact .base (.bl _)
  | int b => cases e; rw [RV.int.mp r]; exact .base (.int _)
  | str b => cases e; rw [RV.str.mp r]; exact .base (.str _)
  | tup ds =>
    cases e
    obtain ⟨a, xs, rfl, h2, h3⟩ := RV.tup.mp r
    rcases h2 with (h2 | ⟨o, h2⟩) | ⟨o, its, n, h2, h4, _⟩
    · exact .base (.tup h2)
    · exact .fTuple h2
    · exact .kTuple h2 h4
  | rol ds =>
    cases e
    obtain ⟨a, xs, rfl, h2, h3⟩ := RV.rol.mp r
    exact .base (.lst h2.1)
  | frz ds =>
    cases e
    obtain ⟨a, xs, rfl, h2, h3⟩ := RV.frz.mp r
    rcases h2 with ⟨o, h2⟩ | ⟨o, its, n, h2, h4, _⟩
    · exact .base (.frz h2)
    · exact .kList h2 h4
  | obj n =>
    obtain ⟨a, h1, rfl⟩ := RV.obj.mp r
    obtain ⟨o, u, e1, e2, e3⟩ := s.there h1
    unfold tyD at e
    simp only [e1] at e
    cases o with
    | lst ds =>
      cases e
      obtain ⟨xs, h2, h3⟩ := e2
      exact .base (.lst h2)
    | dct ds =>
      cases e
      obtain ⟨xs, h2, h3⟩ := e2
      exact .base (.dK h2)
    | ins _ _ => cases e
theorem se_isi (T : String) {y : Str} {py : Pos} (hg : Gl X "isinstance" := by rfl) (hm : X.mg "isinstance" = none) (hgT : Gl X y) (hmT : X.mg y = none) (hvT : bootBuiltins y = some (.type T)) (ha : SE X W e ma)
    (he : starEach [e, .Name y py] X.env = (false, eval e X.env) :: starEach [.Name y py] X.env := by rfl) (hpl : (backTo pos (starEach [.Name y py] X.env)).any (·.1) = false := by rfl) (hn : y ≠ "__name__" := by decide) (hd : (y == ("__debug__" : Str)) = false := by decide) :
    SE X W (.Call (.Name "isinstance" p) [e, .Name y py] [] pos) (mIsi T ma) := by
  refine PE.imp (pe_callB call_isi hg hm (by decide +kernel) (pa_cons ha (pa_cons (pe_bltn hgT hmT hvT (v := .ty T) rfl hn hd) pa_nil) he) (he := he) (hpl := hpl)) fun σ H Q ⟨Z, ρ, env, S, a, q⟩ => ?_
  refine a.first q fun ρ1 H1 S1 x v a1 e1 rv q1 => ?_
  cases e : tyD x S1 with
  | none => rw [e] at q1; exact q1.elim
  | some t =>
    rw [e] at q1
    cases k : kitB t T with
    | none =>
      have q1 : GE X W Z σ ρ1 H1 (match (kitB t T) with
        | some b => Res.ok (D.bl b) S1
        | none => .stuck) (qV X Z Q) := q1
      rw [k] at q1
      exact q1.elim
    | some b =>
      have q1 : GE X W Z σ ρ1 H1 (match (kitB t T) with
        | some b => Res.ok (D.bl b) S1
        | none => .stuck) (qV X Z Q) := q1
      rw [k] at q1
      exact ⟨v, .ty T, .type t, .type T, b, rfl, .ty T, tyD_ok a1.rs rv e, kit_ty k, q1 ρ1 H1 Ext.refl a1.rs _ (RV.bl.mpr rfl)⟩
end
end Py

set_option Elab.async false
set_option linter.all false
set_option maxRecDepth 100000
/-! statements, defs, calls -/
namespace Py
open PySem PySem.Spec PyProof.Rows L2

/-- an expression's result, then the rest of a statement -/
def sBnd {α : Type} (r : Res α) (env : Env) (k : α → Store → SR) : SR := match r with
  | .ok a S => k a S
  | .exc x S => .exc x env S
  | .stuck => .stuck
section
variable (X : Cx) (W : WX) (Z : Zt)
def GS (D : Ends) (ρ : List Addr) (H : Hp) (r : SR) : Prop := match r with
  | .nx env S => ∀ ρ' H' σ', Ext Z ρ H ρ' H' → At X Z ρ' H' S env σ' → D.nx σ' H'
  | .bk env S => ∀ ρ' H' σ', Ext Z ρ H ρ' H' → At X Z ρ' H' S env σ' → D.bk σ' H'
  | .ct env S => ∀ ρ' H' σ', Ext Z ρ H ρ' H' → At X Z ρ' H' S env σ' → D.ct σ' H'
  | .rt d S => ∀ ρ' H' v, Ext Z ρ H ρ' H' → RS X.K ρ' Z H' X.mg S → RV X.K ρ' Z H' d v → D.rt v H'
  | .exc x env S => ∀ ρ' H' σ' c o, Ext Z ρ H ρ' H' → At X Z ρ' H' S env σ' → RX X.K ρ' Z H' X.mg x c o → W c o σ' H'
  | .stuck => False
end
section
variable (X : Cx) (W : WX)
def rdS (m : MS) : TS := fun D σ H => ∃ Z ρ env S, At X Z ρ H S env σ ∧ GS X W Z D ρ H (m env S)
def SS (st : Stmt) (m : MS) : Prop := PS X st (rdS X W m)
def SSs (st : List Stmt) (m : MS) : Prop := PSs X st (rdS X W m)
/-- no exception -/
abbrev W0 : WX := fun _ _ _ _ => False
def rdG (m : MG) : TG := fun v σ H Q => ∃ Z ρ env S d, At X Z ρ H S env σ ∧ RV X.K ρ Z H d v ∧ GE X W0 Z σ ρ H (m d env S) (fun env' S' ρ' H' => ∀ σ', At X Z ρ' H' S' env' σ' → Q σ' H')
def SG (e : Expr) (m : MG) : Prop := PG X e (rdG X m)
abbrev MGs := List D → Env → M Env
def rdGs (m : MGs) : TGs := fun vs σ H Q => ∃ Z ρ env S ds, At X Z ρ H S env σ ∧ RVs X.K ρ Z H ds vs ∧ GE X W0 Z σ ρ H (m ds env S) (fun env' S' ρ' H' => ∀ σ', At X Z ρ' H' S' env' σ' → Q σ' H')
def SGs (es : List Expr) (m : MGs) : Prop := PGs X es (rdGs X m)
end
section
variable {X : Cx} {W : WX} {Z : Zt} {σ : L2.St} {ρ ρ' : List Addr} {H H' : Hp} {S : Store} {env : Env} {α : Type} {D : Ends}
theorem GS.ext {r : SR} (e : Ext Z ρ H ρ' H') (h : GS X W Z D ρ H r) : GS X W Z D ρ' H' r := by
  cases r with
  | nx env S => exact fun ρ2 H2 s e2 a => h ρ2 H2 s (e.trans e2) a
  | bk env S => exact fun ρ2 H2 s e2 a => h ρ2 H2 s (e.trans e2) a
  | ct env S => exact fun ρ2 H2 s e2 a => h ρ2 H2 s (e.trans e2) a
  | rt d S => exact fun ρ2 H2 v e2 a r => h ρ2 H2 v (e.trans e2) a r
  | exc x env S => exact fun ρ2 H2 s c o e2 a r => h ρ2 H2 s c o (e.trans e2) a r
  | stuck => exact h
theorem GS.bnd {r : Res α} {k : α → Store → SR} (a : At X Z ρ H S env σ) (h : GS X W Z D ρ H (sBnd r env k)) : GE X W Z σ ρ H r fun x S' ρ' H' => GS X W Z D ρ' H' (k x S') := by
  cases r with
  | ok x S' => exact fun ρ' H' e s => GS.ext e h
  | exc x S' => exact fun ρ' H' c o e s r => h ρ' H' σ c o e (a.ext e s) r
  | stuck => exact h
theorem PS.imp {st : Stmt} {t t' : TS} (h : PS X st t) (k : ∀ D σ H, t' D σ H → t D σ H) : PS X st t' := ⟨fun pins s σ H D I q => h.run pins s σ H D I (k D σ H q)⟩
theorem PSs.imp {st : List Stmt} {t t' : TS} (h : PSs X st t) (k : ∀ D σ H, t' D σ H → t D σ H) : PSs X st t' := ⟨fun pins s σ H D I q => h.run pins s σ H D I (k D σ H q)⟩
theorem PG.imp {e : Expr} {t t' : TG} (h : PG X e t) (k : ∀ v σ H Q, t' v σ H Q → t v σ H Q) : PG X e t' := ⟨fun pins s σ H v u Q I r q => h.run pins s σ H v u Q I r (k v σ H Q q)⟩
theorem PGs.imp {e : List Expr} {t t' : TGs} (h : PGs X e t) (k : ∀ v σ H Q, t' v σ H Q → t v σ H Q) : PGs X e t' := ⟨fun pins s σ H v u Q I r q => h.run pins s σ H v u Q I r (k v σ H Q q)⟩
/-- an expression at the start of a statement -/
theorem At.exp (a : At X Z ρ H S env σ) {m : ME} {k : Py.D → Store → SR} {Q : VK} (h : GS X W Z D ρ H (sBnd (m env S) env k))
    (n : ∀ ρ' H' S' d v, At X Z ρ' H' S' env σ → Ext Z ρ H ρ' H' → RV X.K ρ' Z H' d v → GS X W Z D ρ' H' (k d S') → Q v H') : rd X W m σ H Q :=
  ⟨Z, ρ, env, S, a, (GS.bnd a h).imp fun d S' ρ' H' e s g v r => n ρ' H' S' d v (a.ext e s) e r g⟩
theorem At.tst (a : At X Z ρ H S env σ) {m : MT} {k : Bool → Store → SR} {Q : Bool → Hp → Prop} (h : GS X W Z D ρ H (sBnd (m env S) env k))
    (n : ∀ ρ' H' S' b, At X Z ρ' H' S' env σ → Ext Z ρ H ρ' H' → GS X W Z D ρ' H' (k b S') → Q b H') : rdT X W m σ H Q :=
  ⟨Z, ρ, env, S, a, (GS.bnd a h).imp fun d S' ρ' H' e s g => n ρ' H' S' d (a.ext e s) e g⟩
end

/-! ### blocks -/
def sNil (env : Env) (S : Store) : SR := .nx env S
def sSeq (a b : MS) (env : Env) (S : Store) : SR := match a env S with
  | .nx e s => b e s
  | .bk e s => .bk e s
  | .ct e s => .ct e s
  | .rt d s => .rt d s
  | .exc x e s => .exc x e s
  | .stuck => .stuck
def sRet (ma : ME) (env : Env) (S : Store) : SR := sBnd (ma env S) env fun d S' => .rt d S'
def sRetN (_ : Env) (S : Store) : SR := .rt .non S
def sExp (ma : ME) (env : Env) (S : Store) : SR := sBnd (ma env S) env fun _ S' => .nx env S'
def sSet (i : Nat) (ma : ME) (env : Env) (S : Store) : SR := sBnd (ma env S) env fun d S' => .nx (env.set i (some d)) S'
/-- a target's result: it raises nothing -/
def sTgt {α : Type} (r : Res α) (k : α → Store → SR) : SR := match r with
  | .ok a S => k a S
  | _ => .stuck
def sAsg (ma : ME) (g : MG) (env : Env) (S : Store) : SR := sBnd (ma env S) env fun d S' => sTgt (g d env S') fun env' S'' => .nx env' S''
def sIf (t : MT) (a b : MS) (env : Env) (S : Store) : SR := sBnd (t env S) env fun c S' => if c then a env S' else b env S'
def sBreak (env : Env) (S : Store) : SR := .bk env S
def sCont (env : Env) (S : Store) : SR := .ct env S
section
variable {X : Cx} {W : WX} {st : Stmt} {sts : List Stmt} {a b : MS} {e c : Expr} {ma : ME} {t : MT} {pos : Pos}
theorem sss_nil : SSs X W [] sNil := PSs.imp pss_nil fun D σ H ⟨Z, ρ, env, S, a, q⟩ => q ρ H σ Ext.refl a
theorem GS.seq {Z : Zt} {ρ : List Addr} {H : Hp} {S : Store} {env : Env} {D : Ends} (q : GS X W Z D ρ H (sSeq a b env S)) : GS X W Z { D with nx := rdS X W b D } ρ H (a env S) := by
  unfold sSeq at q
  cases e : a env S with
  | nx env' S' =>
    rw [e] at q
    exact fun ρ' H' σ' e2 a2 => ⟨Z, ρ', env', S', a2, GS.ext e2 q⟩
  | bk env' S' => rw [e] at q; exact q
  | ct env' S' => rw [e] at q; exact q
  | rt d S' => rw [e] at q; exact q
  | exc x env' S' => rw [e] at q; exact q
  | stuck => rw [e] at q; exact q
theorem sss_cons (h1 : SS X W st a) (h2 : SSs X W sts b) : SSs X W (st :: sts) (sSeq a b) :=
  PSs.imp (pss_cons h1 h2) fun D σ H ⟨Z, ρ, env, S, a, q⟩ => ⟨Z, ρ, env, S, a, GS.seq q⟩
theorem sss_one (h1 : SS X W st a) : SSs X W [st] a := pss_one h1
theorem ss_pass : SS X W (.Pass pos) sNil := PS.imp ps_pass fun D σ H ⟨Z, ρ, env, S, a, q⟩ => q ρ H σ Ext.refl a
theorem ss_break : SS X W (.Break pos) sBreak := PS.imp ps_break fun D σ H ⟨Z, ρ, env, S, a, q⟩ => q ρ H σ Ext.refl a
theorem ss_cont : SS X W (.Continue pos) sCont := PS.imp ps_continue fun D σ H ⟨Z, ρ, env, S, a, q⟩ => q ρ H σ Ext.refl a
theorem ss_doc {x : Str} {j : Nat} {pos' : Pos} : SS X W (.Expr (.Constant (.str x) j pos) pos') sNil := PS.imp ps_doc fun D σ H ⟨Z, ρ, env, S, a, q⟩ => q ρ H σ Ext.refl a
theorem ss_ret (he : SE X W e ma) : SS X W (.Return (some e) pos) (sRet ma) :=
  PS.imp (ps_ret he) fun D σ H ⟨Z, ρ, env, S, a, q⟩ => a.exp q fun ρ1 H1 S1 d v a1 e1 r q1 => q1 ρ1 H1 v Ext.refl a1.rs r
theorem ss_retN : SS X W (.Return none pos) sRetN := PS.imp ps_retN fun D σ H ⟨Z, ρ, env, S, a, q⟩ => q ρ H .non Ext.refl a.rs (RV.non.mpr rfl)
theorem ss_exp (he : SE X W e ma) (hs : swapsWith e none pos.line X.env = pure false := by rfl) : SS X W (.Expr e pos) (sExp ma) :=
  PS.imp (ps_expr he hs) fun D σ H ⟨Z, ρ, env, S, a, q⟩ => a.exp q fun ρ1 H1 S1 d v a1 e1 r q1 => q1 ρ1 H1 σ Ext.refl a1
theorem ss_if (hc : ST X W c t) (ha : SSs X W sts a) {sts' : List Stmt} (hb : SSs X W sts' b) : SS X W (.If c sts sts' pos) (sIf t a b) := by
  refine PS.imp (ps_if hc ha hb) fun D σ H ⟨Z, ρ, env, S, a, q⟩ => ?_
  refine a.tst q fun ρ1 H1 S1 c a1 e1 q1 => ?_
  cases c with
  | true => exact iteT ⟨Z, ρ1, env, S1, a1, q1⟩
  | false => exact iteF ⟨Z, ρ1, env, S1, a1, q1⟩
/-- name = value -/
theorem ss_set (i : Nat) {x : Str} {pos' : Pos} (hN : X.N.Nodup) (hi : X.N[i]? = some x) (hx : Loc X.env.scope x) (he : SE X W e ma) (hs : swapsWith e (some (.Name x pos')) pos.line X.env = pure false := by rfl)
    (hf : X.fn x = true ∨ X.env.scope.names.lookup x = some .local := by first | exact .inl rfl | exact .inr rfl | assumption) : SS X W (.Assign [.Name x pos'] e pos) (sSet i ma) := by
  refine PS.imp (ps_set hN hi hx he hs hf) fun D σ H ⟨Z, ρ, env, S, a, q⟩ => ?_
  exact a.exp q fun ρ1 H1 S1 d v a1 e1 r q1 => q1 ρ1 H1 _ Ext.refl ⟨a1.rs, a1.re.set i r, a1.hot⟩

/-! ### targets -/
def gNm (i : Nat) (d : D) (env : Env) (S : Store) : Res Env := (giv (env.set i (some d))) S
def gTp (n : Nat) (gs : MGs) : MG
  | .tup ds, env => need (ds.length = n) (gs ds env)
  | _, _ => fail
def gsNil : MGs
  | [], env => giv env
  | _, _ => fail
def gsCons (g : MG) (gs : MGs) : MGs
  | d :: r, env => bnd (g d env) fun env' => gs r env'
  | [], _ => fail
/-- o[i] = d -/
def setO (n : Nat) (o : Option Ob) (k : Int) (d : D) : M Unit := match o with
  | some (.lst ds) => opt (ixN ds.length k) fun j S => .ok () (S.set n (.lst (ds.set j d)))
  | _ => fail
def dSet : D → D → D → M Unit
  | .obj n, .int k, d => fun S => setO n S[n]? k d S
  | _, _, _ => fail
def gIt (ma mb : ME) (d : D) (env : Env) (S : Store) : Res Env := (bnd (ma env) fun o => bnd (mb env) fun i => bnd (dSet o i d) fun _ => giv env) S
theorem GE.w0 {Z : Zt} {σ σ' : L2.St} {ρ : List Addr} {H : Hp} {α : Type} {r : Res α} {Q : α → Store → List Addr → Hp → Prop} (q : GE X W0 Z σ ρ H r Q) : GE X W Z σ' ρ H r Q := by
  cases r with
  | ok x S' => exact q
  | exc x S' => exact fun ρ' H' c o e s r => (q ρ' H' c o e s r).elim
  | stuck => exact q
theorem GS.tgt {Z : Zt} {σ : L2.St} {ρ : List Addr} {H : Hp} {D : Ends} {α : Type} {r : Res α} {k : α → Store → SR} (h : GS X W Z D ρ H (sTgt r k)) : GE X W0 Z σ ρ H r fun x S' ρ' H' => GS X W Z D ρ' H' (k x S') := by
  cases r with
  | ok x S' => exact fun ρ' H' e s => GS.ext e h
  | exc x S' => exact h.elim
  | stuck => exact h
theorem sg_name (i : Nat) {x : Str} (hN : X.N.Nodup) (hi : X.N[i]? = some x) (hx : Loc X.env.scope x) (hf : X.fn x = true ∨ X.env.scope.names.lookup x = some .local := by first | exact .inl rfl | exact .inr rfl | assumption) : SG X (.Name x pos) (gNm i) :=
  PG.imp (pg_name hN hi hx hf) fun v σ H Q ⟨Z, ρ, env, S, d, a, r, q⟩ => q.giv a.rs _ ⟨a.rs, a.re.set i r, a.hot⟩
theorem sgs_nil : SGs X [] gsNil := PGs.imp pgs_nil fun v σ H Q ⟨Z, ρ, env, S, ds, a, r, q⟩ => by
  cases ds with
  | nil => exact ⟨RVs.nil.mp r, GE.giv (show GE X W0 Z σ ρ H (Py.giv env S) _ from q) a.rs _ a⟩
  | cons d ds => exact q.elim
theorem sgs_cons {es : List Expr} {g : MG} {gs : MGs} (h1 : SG X e g) (h2 : SGs X es gs) (hs : (assignEach (e :: es) X.env).map (·.2) = assign e X.env :: (assignEach es X.env).map (·.2) := by rfl) : SGs X (e :: es) (gsCons g gs) :=
  PGs.imp (pgs_cons h1 h2 hs) fun vs σ H Q ⟨Z, ρ, env, S, ds, a, r, q⟩ => by
    cases ds with
    | nil => exact q.elim
    | cons d ds =>
      obtain ⟨v, w, rfl, r1, r2⟩ := RVs.cons.mp r
      have q := GE.bnd (show GE X W0 Z σ ρ H (bnd (g d env) (fun env' => gs ds env') S) _ from q)
      exact ⟨v, w, rfl, Z, ρ, env, S, d, a, r1, q.imp fun env' S' ρ' H' e s q2 σ' a' => ⟨Z, ρ', env', S', ds, a', r2.ext e, GE.w0 q2⟩⟩
theorem sg_tup {es : List Expr} {k n : Nat} {gs : MGs} (hc : X.calm = true) (h : SGs X es gs) (hn : (assignEach es X.env).length = n := by rfl) (hst : (assignEach es X.env).findIdx? (·.1) = none := by rfl) : SG X (.Tuple es k pos) (gTp n gs) :=
  PG.imp (pg_tup hc h hn hst) fun v σ H Q ⟨Z, ρ, env, S, d, a, r, q⟩ => by
    cases d with
    | tup ds =>
      obtain ⟨b, xs, rfl, h2, h3⟩ := RV.tup.mp r
      obtain ⟨c, q⟩ := GE.need (show GE X W0 Z σ ρ H (need (ds.length = n) (gs ds env) S) _ from q)
      exact ⟨b, xs, rfl, h2, h3.length.trans c, Z, ρ, env, S, ds, a, h3, q⟩
    | _ => exact q.elim
theorem dSet_ok {Z : Zt} {σ : L2.St} {ρ : List Addr} {H : Hp} {S : Store} {x y d : D} {v u w : V} {Q : Unit → Store → List Addr → Hp → Prop} (s : RS X.K ρ Z H X.mg S) (rx : RV X.K ρ Z H x v) (ry : RV X.K ρ Z H y u) (rd : RV X.K ρ Z H d w)
    (q : GE X W Z σ ρ H (dSet x y d S) Q) {R : Hp → Prop} (k : ∀ S' H', Ext Z ρ H ρ H' → RS X.K ρ Z H' X.mg S' → Q () S' ρ H' → R H') : rSetL v u w H R := by
  cases x with
  | obj n =>
    cases y with
    | int i =>
      obtain ⟨a, h1, rfl⟩ := RV.obj.mp rx
      rw [RV.int.mp ry]
      have q : GE X W Z σ ρ H (setO n S[n]? i d S) Q := q
      obtain ⟨o, u, e1, e2, e3⟩ := s.there h1
      rw [e1] at q
      cases o with
      | lst ds =>
        obtain ⟨xs, h2, h3⟩ := e2
        obtain ⟨j, ej, q⟩ := GE.opt (show GE X W Z σ ρ H (opt (ixN ds.length i) (fun j S => .ok () (S.set n (.lst (ds.set j d)))) S) Q from q)
        have ee := ext_set s h1 h2 trivial (o' := .lst (xs.set j w))
        have ss := s.set (ob := .lst (ds.set j d)) h1 h2 trivial ⟨_, upd_same, (h3.ext ee).set j (rd.ext ee)⟩
        exact ⟨a, xs, i, j, rfl, rfl, h2, by rw [h3.length]; exact ej, k _ _ ee ss (q ρ _ ee ss)⟩
      | dct _ => exact q.elim
      | ins _ _ => exact q.elim
    | _ => exact q.elim
  | _ => cases y <;> exact q.elim
theorem sg_item {o i : Expr} {mo mi : ME} (ho : SE X W0 o mo) (hi : SE X W0 i mi) (ha : ∀ v, assign (.Subscript o i pos) X.env v = (do
      let ov ← holding [v] (eval o X.env)
      let iv ← holding [v, ov] (eval i X.env)
      standAt pos
      holding [v, ov, iv] (setItem ov iv v)
      release [v, ov, iv] []) := by intro _; rfl) : SG X (.Subscript o i pos) (gIt mo mi) :=
  PG.imp (pg_sub ho hi set_list ha) fun v σ H Q ⟨Z, ρ, env, S, d, a, r, q⟩ => by
    refine a.first q fun ρ1 H1 S1 x u a1 e1 rx q1 => ?_
    refine a1.first q1 fun ρ2 H2 S2 y w a2 e2 ry q2 => ?_
    exact dSet_ok a2.rs (rx.ext e2) ry (r.ext (e1.trans e2)) q2.bnd fun S' H' e s q => GE.giv q s _ ⟨s, (a2.re.ext e), a2.hot⟩
theorem ss_asg {tg : Expr} {g : MG} (he : SE X W e ma) (hg : SG X tg g) (hs : swapsWithSole [tg] e pos.line X.env = pure false := by rfl) (hw : swappedStores [tg] e X.env = pure none := by rfl)
    (h1 : (assignEach [tg] X.env).map (·.2) = [assign tg X.env] := by rfl) : SS X W (.Assign [tg] e pos) (sAsg ma g) :=
  PS.imp (ps_asg he hg hs hw h1) fun D σ H ⟨Z, ρ, env, S, a, q⟩ => by
    refine a.exp q fun ρ1 H1 S1 d v a1 e1 r q1 => ?_
    exact ⟨Z, ρ1, env, S1, d, a1, r, (GS.tgt q1).imp fun env' S' ρ' H' e s q2 σ' a' => q2 ρ' H' σ' Ext.refl a'⟩
/-- name op= e -/
def sAug (i : Nat) (f : D → D → M D) (ma : ME) (env : Env) (S : Store) : SR := sBnd (slotM env[i]? S) env fun x S0 => sBnd (ma env S0) env fun y S1 => sBnd (f x y S1) env fun z S2 => .nx (env.set i (some z)) S2
theorem ss_aug (i : Nat) {op : Operator} {r : R2} {f : D → D → M D} {x : Str} {pos' : Pos} (ho : OpR X (inplaceOp op) r) (hf2 : O2 X W r f) (hN : X.N.Nodup) (hi : X.N[i]? = some x) (hx : Loc X.env.scope x) (he : SE X W e ma)
    (hf : X.fn x = true ∨ X.env.scope.names.lookup x = some .local := by first | exact .inl rfl | exact .inr rfl | assumption) : SS X W (.AugAssign (.Name x pos') op e pos) (sAug i f ma) :=
  PS.imp (ps_aug (ti := r) hN hi hx he ho hf) fun D σ H ⟨Z, ρ, env, S, a, q⟩ => by
    cases ei : env[i]? with
    | none => unfold sAug at q; rw [ei] at q; exact q.elim
    | some od =>
      cases od with
      | none => unfold sAug at q; rw [ei] at q; exact q.elim
      | some d =>
        obtain ⟨v, h1, h2⟩ := a.re.val i d ei
        unfold sAug at q
        rw [ei] at q
        refine ⟨v, h1, ?_⟩
        refine a.exp q fun ρ1 H1 S1 y u a1 e1 ru q1 => ?_
        exact hf2 Z σ ρ1 H1 S1 d y v u _ a1.rs (h2.ext e1) ru ((GS.bnd a1 q1).imp fun z S2 ρ2 H2 e2 s2 q2 w rw => q2 ρ2 H2 _ Ext.refl ⟨s2, (a1.re.ext e2).set i rw, a1.hot⟩)
end

/-! ### while, for -/
def whileN (t : MT) (b : MS) : Nat → MS
  | 0, _, _ => .stuck
  | n + 1, env, S => sBnd (t env S) env fun c S' => if c then (match b env S' with
    | .nx e s => whileN t b n e s
    | .ct e s => whileN t b n e s
    | .bk e s => .nx e s
    | .rt d s => .rt d s
    | .exc x e s => .exc x e s
    | .stuck => .stuck) else .nx env S'
open Classical in
noncomputable def sWhile (t : MT) (b : MS) (env : Env) (S : Store) : SR := if h : ∃ n, whileN t b n env S ≠ .stuck then whileN t b (Classical.choose h) env S else .stuck
/-- what a loop walks: the items, and the lists that must stay as they are -/
structure Src where
  ds : List D
  keep : List (Nat × List D)
def Src.ok (s : Src) (S : Store) : Prop := ∀ p ∈ s.keep, S[p.1]? = some (.lst p.2)
open Classical in
noncomputable def forL (ok : Store → Prop) (g : MG) (b : MS) : List D → MS
  | [], env, S => if ok S then .nx env S else .stuck
  | d :: ds, env, S => if ok S then sTgt (g d env S) fun e1 S1 => (match b e1 S1 with
    | .nx e s => forL ok g b ds e s
    | .ct e s => forL ok g b ds e s
    | .bk e s => .nx e s
    | .rt d s => .rt d s
    | .exc x e s => .exc x e s
    | .stuck => .stuck) else .stuck
noncomputable def sFor (mi : Env → M Src) (g : MG) (b : MS) (env : Env) (S : Store) : SR := sBnd (mi env S) env fun src S' => forL src.ok g b src.ds env S'
/-- J walks the items of src -/
structure Wk (X : Cx) (Z : Zt) (ρ0 : List Addr) (H0 : Hp) (src : Src) (J : It) : Prop where
  go : ∀ (i : Nat) (d : D) (Z' : Zt) (ρ : List Addr) (H : Hp) (S : Store), Cpy X.K ρ0 Z H0 ρ Z' H → RS X.K ρ Z' H X.mg S → src.ok S → src.ds[i]? = some d → J.go i H ∧ ∀ x H', J.yld i H x H' → Ext Z' ρ H ρ H' ∧ RS X.K ρ Z' H' X.mg S ∧ RV X.K ρ Z' H' d x
  stop : ∀ (i : Nat) (Z' : Zt) (ρ : List Addr) (H : Hp) (S : Store), Cpy X.K ρ0 Z H0 ρ Z' H → RS X.K ρ Z' H X.mg S → src.ok S → src.ds.length ≤ i → J.stop i H
def rdI (X : Cx) (W : WX) (m : Env → M Src) : TI := fun σ H R => ∃ Z ρ env S, At X Z ρ H S env σ ∧ GE X W Z σ ρ H (m env S) (fun src S' ρ' H' => ∀ J, Wk X Z ρ' H' src J → R J H')
def SI (X : Cx) (W : WX) (tg iter : Expr) (m : Env → M Src) : Prop := PI X tg iter (rdI X W m)
section
variable {X : Cx} {W : WX} {sts : List Stmt} {b : MS} {e c tg : Expr} {ma : ME} {t : MT} {g : MG} {pos : Pos}
theorem ss_while (hp : PassesOwn (model X.prog X.w) X.A X.env X.xe) (hc : ST X W c t) (hb : SSs X W sts b) : SS X W (.While c sts [] pos) (sWhile t b) := by
  refine PS.imp (ps_while hp hc hb) fun D σ H ⟨Z, ρ, env, S, a, q⟩ => ?_
  unfold sWhile at q
  split at q
  · rename_i h
    refine ⟨fun n σ H => ∃ ρ env S, At X Z ρ H S env σ ∧ GS X W Z D ρ H (whileN t b n env S), ⟨_, ρ, env, S, a, q⟩, ?_⟩
    rintro n σ1 H1 ⟨ρ1, env1, S1, a1, q1⟩
    cases n with
    | zero => exact q1.elim
    | succ n =>
      refine a1.tst q1 fun ρ2 H2 S2 c a2 e2 q2 => ?_
      cases c with
      | false => exact iteF (q2 ρ2 H2 σ1 Ext.refl a2)
      | true =>
        refine iteT ⟨fun σ H => ∃ ρ env S, At X Z ρ H S env σ ∧ GS X W Z D ρ H (whileN t b n env S), fun σ' H' h => ⟨n, Nat.lt_succ_self n, h⟩, Z, ρ2, env1, S2, a2, ?_⟩
        rw [if_pos rfl] at q2
        cases eb : b env1 S2 with
        | nx e s => rw [eb] at q2; exact fun ρ' H' σ' ee aa => ⟨ρ', e, s, aa, GS.ext ee q2⟩
        | ct e s => rw [eb] at q2; exact fun ρ' H' σ' ee aa => ⟨ρ', e, s, aa, GS.ext ee q2⟩
        | bk e s => rw [eb] at q2; exact q2
        | rt d s => rw [eb] at q2; exact q2
        | exc x e s => rw [eb] at q2; exact q2
        | stuck => rw [eb] at q2; exact q2
  · exact q.elim
theorem ss_for {iter : Expr} {mi : Env → M Src} (hp : PassesOwn (model X.prog X.w) X.A X.env X.xe) (hc : X.calm = true) (hi : SI X W tg iter mi) (hg : SG X tg g) (hb : SSs X W sts b) (hs : ∀ x, foldedSetIterable iter X.env x = pure x := by intro _; rfl) :
    SS X W (.For tg iter sts [] pos) (sFor mi g b) := by
  refine PS.imp (ps_for hp hc hi hg hb hs) fun D σ H ⟨Z, ρ, env, S, a, q⟩ => ?_
  refine ⟨Z, ρ, env, S, a, (GS.bnd a q).imp fun src S0 ρ0 H0 e0 s0 q0 J wk => ?_⟩
  refine ⟨fun i m σ H => m = src.ds.length - i ∧ i ≤ src.ds.length ∧ ∃ ρ env S, Ext Z ρ0 H0 ρ H ∧ At X Z ρ H S env σ ∧ GS X W Z D ρ H (forL src.ok g b (src.ds.drop i) env S), ⟨_, rfl, Nat.zero_le _, ρ0, env, S0, Ext.refl, a.ext e0 s0, q0⟩, ?_⟩
  rintro i m σ1 H1 ⟨rfl, hil, ρ1, env1, S1, e1, a1, q1⟩
  by_cases hi : i < src.ds.length
  · rw [List.drop_eq_getElem_cons hi] at q1
    unfold forL at q1
    split at q1
    · rename_i ok
      obtain ⟨g1, g2⟩ := wk.go i src.ds[i] Z ρ1 H1 S1 e1.cpy a1.rs ok (List.getElem?_eq_getElem hi)
      refine .inr ⟨g1, fun σ H => ∃ ρ env S, Ext Z ρ0 H0 ρ H ∧ At X Z ρ H S env σ ∧ GS X W Z D ρ H (forL src.ok g b (src.ds.drop (i + 1)) env S), fun σ' H' h => ⟨_, by omega, rfl, hi, h⟩, fun x H2 y => ?_⟩
      obtain ⟨e2, s2, r2⟩ := g2 x H2 y
      refine ⟨Z, ρ1, env1, S1, _, a1.ext e2 s2, r2, (GS.tgt (GS.ext e2 q1)).imp fun env3 S3 ρ3 H3 e3 s3 q3 σ3 a3 => ⟨Z, ρ3, env3, S3, a3, ?_⟩⟩
      have ee := e1.trans (e2.trans e3)
      cases eb : b env3 S3 with
      | nx e s => rw [eb] at q3; exact fun ρ' H' σ' e4 aa => ⟨ρ', e, s, ee.trans e4, aa, GS.ext e4 q3⟩
      | ct e s => rw [eb] at q3; exact fun ρ' H' σ' e4 aa => ⟨ρ', e, s, ee.trans e4, aa, GS.ext e4 q3⟩
      | bk e s => rw [eb] at q3; exact q3
      | rt d s => rw [eb] at q3; exact q3
      | exc x e s => rw [eb] at q3; exact q3
      | stuck => rw [eb] at q3; exact q3
    · exact q1.elim
  · have z : i = src.ds.length := by omega
    subst z
    rw [List.drop_length] at q1
    unfold forL at q1
    split at q1
    · rename_i ok
      exact .inl ⟨wk.stop _ Z ρ1 H1 S1 e1.cpy a1.rs ok (Nat.le_refl _), q1 ρ1 H1 σ1 Ext.refl a1⟩
    · exact q1.elim

/-! ### sources -/
/-- a list, a tuple, a text walked -/
def srcL : D → M Src
  | .rol ds => giv ⟨ds, []⟩
  | .frz ds => giv ⟨ds, []⟩
  | .obj n => fun S => bnd (lstO S[n]?) (fun ds => giv ⟨ds, [(n, ds)]⟩) S
  | _ => fail
def srcT : D → M Src
  | .tup ds => giv ⟨ds, []⟩
  | _ => fail
def srcS : D → M Src
  | .str z => giv ⟨z.cps.toList.map fun c => .str ⟨#[c]⟩, []⟩
  | _ => fail
def iE (f : D → M Src) (ma : ME) (env : Env) (S : Store) : Res Src := (bnd (ma env) f) S
def srcR (lo hi : Int) : Src := ⟨(List.range (hi - lo).toNat).map fun (k : Nat) => .int (lo + k), []⟩
def rng1 : List D → M Src
  | [.int j] => need (-(2 ^ 62) ≤ j ∧ j < 2 ^ 62) (giv (srcR 0 j))
  | _ => fail
def rng2 : List D → M Src
  | [.int i, .int j] => need (-(2 ^ 62) ≤ i ∧ i < 2 ^ 62 ∧ -(2 ^ 62) ≤ j ∧ j < 2 ^ 62) (giv (srcR i j))
  | _ => fail
def iF (f : List D → M Src) (mas : MA) (env : Env) (S : Store) : Res Src := (bnd (mas env) f) S
theorem PI.imp {iter : Expr} {t t' : TI} (h : PI X tg iter t) (k : ∀ σ H R, t' σ H R → t σ H R) : PI X tg iter t' := ⟨fun pins s σ H R I q => h.run pins s σ H R I (k σ H R q)⟩
section
variable {ρ0 : List Addr} {Z : Zt} {H0 : Hp}
theorem wk_tup {ds : List D} {xs : List V} {a : Addr} (h : SqT X.K H0 a xs) (r : RVs X.K ρ0 Z H0 ds xs) : Wk X Z ρ0 H0 ⟨ds, []⟩ (Itt X.K a) :=
  ⟨fun i d Z' ρ H S e s ok hd => by
    obtain ⟨v, hv, rv⟩ := r.get hd
    refine ⟨⟨xs, v, e.sqt _ _ h, hv⟩, fun x H' ⟨h1, h2⟩ => ?_⟩
    subst h1
    have z := h2 xs (e.sqt _ _ h)
    rw [hv] at z
    cases z
    exact ⟨Ext.refl, s, rv.cpy e⟩, fun i Z' ρ H S e s ok hd => ⟨xs, e.sqt _ _ h, by rw [r.length]; exact hd⟩⟩
theorem wk_lst {ds : List D} {a : Addr} {keep : List (Nat × List D)} (h : ∀ Z' ρ H S, Cpy X.K ρ0 Z H0 ρ Z' H → RS X.K ρ Z' H X.mg S → Src.ok ⟨ds, keep⟩ S → ∃ xs, SqL X.K H a xs ∧ RVs X.K ρ Z' H ds xs) : Wk X Z ρ0 H0 ⟨ds, keep⟩ (Itl X.K a) :=
  ⟨fun i d Z' ρ H S e s ok hd => by
    obtain ⟨xs, h, r⟩ := h Z' ρ H S e s ok
    obtain ⟨v, hv, rv⟩ := r.get hd
    refine ⟨⟨xs, v, h, hv⟩, fun x H' ⟨h1, h2⟩ => ?_⟩
    subst h1
    have z := h2 xs h
    rw [hv] at z
    cases z
    exact ⟨Ext.refl, s, rv⟩, fun i Z' ρ H S e s ok hd => by
      obtain ⟨xs, h, r⟩ := h Z' ρ H S e s ok
      exact ⟨xs, h, by rw [r.length]; exact hd⟩⟩
theorem wk_obj {ds : List D} {n : Nat} {a : Addr} (h : ρ0[n]? = some a) : Wk X Z ρ0 H0 ⟨ds, [(n, ds)]⟩ (Itl X.K a) := wk_lst fun Z' ρ H S e s ok => by
  have z := ok (n, ds) (by simp)
  obtain ⟨xs, h2, h3⟩ := s.obj n a _ (e.pre n a h) z
  exact ⟨xs, SqL.of h2, h3⟩
theorem wk_str {z : Str} : Wk X Z ρ0 H0 ⟨z.cps.toList.map fun c => .str ⟨#[c]⟩, []⟩ (Its z) :=
  ⟨fun i d Z' ρ H S e s ok hd => by
    have hd : (z.cps.toList.map fun c => D.str ⟨#[c]⟩)[i]? = some d := hd
    rw [List.getElem?_map] at hd
    cases hc : z.cps.toList[i]? with
    | none => rw [hc] at hd; cases hd
    | some c =>
      rw [hc] at hd
      cases hd
      have hi : i < z.cps.size := by
        have := (List.getElem?_eq_some_iff.mp hc).1
        simpa using this
      refine ⟨hi, fun x H' ⟨h1, c', h2, h3⟩ => ?_⟩
      subst h1
      subst h3
      have : z.cps.toList[i]? = some c' := by rw [Array.getElem?_toList]; exact h2
      rw [hc] at this
      cases this
      exact ⟨Ext.refl, s, RV.str.mpr rfl⟩, fun i Z' ρ H S e s ok hd => by
    have hd : (z.cps.toList.map fun c => D.str ⟨#[c]⟩).length ≤ i := hd
    rw [List.length_map, Array.length_toList] at hd
    exact hd⟩
theorem wk_rng {lo hi : Int} : Wk X Z ρ0 H0 (srcR lo hi) (Itr lo (hi - lo).toNat) :=
  ⟨fun i d Z' ρ H S e s ok hd => (by
    have hd : ((List.range (hi - lo).toNat).map fun (k : Nat) => D.int (lo + k))[i]? = some d := hd
    rw [List.getElem?_map] at hd
    by_cases hi' : i < (hi - lo).toNat
    · rw [List.getElem?_range hi'] at hd
      cases hd
      refine ⟨hi', fun x H' ⟨h1, h2⟩ => ?_⟩
      subst h1
      subst h2
      exact ⟨Ext.refl, s, RV.int.mpr rfl⟩
    · rw [List.getElem?_eq_none (by simpa using hi')] at hd
      exact nomatch hd), fun i Z' ρ H S e s ok hd => by
    have hd : ((List.range (hi - lo).toNat).map fun (k : Nat) => D.int (lo + k)).length ≤ i := hd
    rw [List.length_map, List.length_range] at hd
    exact hd⟩
end
theorem si_list (he : SE X W e ma) : SI X W tg e (iE srcL ma) := by
  refine PI.imp (pi_list he) fun σ H R ⟨Z, ρ, env, S, a, q⟩ => ?_
  refine a.first q fun ρ1 H1 S1 x v a1 e1 rv q1 => ?_
  cases x with
  | rol ds =>
    obtain ⟨p, xs, rfl, h2, h3⟩ := RV.rol.mp rv
    exact ⟨p, rfl, ⟨xs, SqL.of h2.1⟩, GE.giv (show GE X W Z σ ρ1 H1 (giv (Src.mk ds []) S1) _ from q1) a1.rs _ (wk_lst fun Z' ρ H S e s ok => ⟨xs, SqL.of (e.sqr _ _ h2).1, h3.cpy e⟩)⟩
  | frz ds =>
    obtain ⟨p, xs, rfl, h2, h3⟩ := RV.frz.mp rv
    exact ⟨p, rfl, ⟨xs, h2.seq⟩, GE.giv (show GE X W Z σ ρ1 H1 (giv (Src.mk ds []) S1) _ from q1) a1.rs _ (wk_lst fun Z' ρ H S e s ok => ⟨xs, (e.sqf _ _ h2).seq, h3.cpy e⟩)⟩
  | obj n =>
    obtain ⟨p, h1, rfl⟩ := RV.obj.mp rv
    obtain ⟨ds, xs, e0, h2, h3, q2⟩ := GE.lstO a1.rs h1 (show GE X W Z σ ρ1 H1 (bnd (lstO S1[n]?) (fun ds => giv (Src.mk ds [(n, ds)])) S1) _ from q1)
    exact ⟨p, rfl, ⟨xs, SqL.of h2⟩, q2.giv a1.rs _ (wk_obj h1)⟩
  | _ => exact q1.elim
theorem si_tup (he : SE X W e ma) : SI X W tg e (iE srcT ma) := by
  refine PI.imp (pi_tup he) fun σ H R ⟨Z, ρ, env, S, a, q⟩ => ?_
  refine a.first q fun ρ1 H1 S1 x v a1 e1 rv q1 => ?_
  cases x with
  | tup ds =>
    obtain ⟨p, xs, rfl, h2, h3⟩ := RV.tup.mp rv
    exact ⟨p, rfl, ⟨xs, h2⟩, GE.giv (show GE X W Z σ ρ1 H1 (giv (Src.mk ds []) S1) _ from q1) a1.rs _ (wk_tup h2 h3)⟩
  | _ => exact q1.elim
theorem si_str (he : SE X W e ma) : SI X W tg e (iE srcS ma) := by
  refine PI.imp (pi_str he) fun σ H R ⟨Z, ρ, env, S, a, q⟩ => ?_
  refine a.first q fun ρ1 H1 S1 x v a1 e1 rv q1 => ?_
  cases x with
  | str z => exact ⟨z, RV.str.mp rv, GE.giv (show GE X W Z σ ρ1 H1 (giv (Src.mk (z.cps.toList.map fun c => .str ⟨#[c]⟩) []) S1) _ from q1) a1.rs _ wk_str⟩
  | _ => exact q1.elim
theorem si_rng1 {p : Pos} {mas : MA} (hg : Gl X "range" := by rfl) (hm : X.mg "range" = none) (ha : SA X W [e] mas) (hs : starEach [e] X.env = [(false, eval e X.env)] := by rfl) : SI X W tg (.Call (.Name "range" p) [e] [] pos) (iF rng1 mas) := by
  refine PI.imp (pi_range1 hg hm ha hs) fun σ H R ⟨Z, ρ, env, S, a, q⟩ => ?_
  refine a.firstA q fun ρ1 H1 S1 xs vs a1 e1 rvs q1 => ?_
  match xs, q1 with
  | [.int j], q1 =>
    obtain ⟨v, rfl, h1⟩ := rvs1 rvs
    obtain ⟨c, q1⟩ := GE.need (show GE X W Z σ ρ1 H1 (need (-(2 ^ 62) ≤ j ∧ j < 2 ^ 62) (giv (srcR 0 j)) S1) _ from q1)
    have w := q1.giv a1.rs _ (wk_rng (lo := 0) (hi := j))
    rw [Int.sub_zero] at w
    exact ⟨j, by rw [RV.int.mp h1], c.1, c.2, w⟩
theorem si_rng2 {p : Pos} {e2 : Expr} {mas : MA} (hg : Gl X "range" := by rfl) (hm : X.mg "range" = none) (ha : SA X W [e, e2] mas) (hs : starEach [e, e2] X.env = [(false, eval e X.env), (false, eval e2 X.env)] := by rfl)
    (hs2 : starEach [e2] X.env = [(false, eval e2 X.env)] := by rfl) : SI X W tg (.Call (.Name "range" p) [e, e2] [] pos) (iF rng2 mas) := by
  refine PI.imp (pi_range2 hg hm ha hs hs2) fun σ H R ⟨Z, ρ, env, S, a, q⟩ => ?_
  refine a.firstA q fun ρ1 H1 S1 xs vs a1 e1 rvs q1 => ?_
  match xs, q1 with
  | [.int i, .int j], q1 =>
    obtain ⟨v, w, rfl, h1, h2⟩ := rvs2 rvs
    obtain ⟨c, q1⟩ := GE.need (show GE X W Z σ ρ1 H1 (need (-(2 ^ 62) ≤ i ∧ i < 2 ^ 62 ∧ -(2 ^ 62) ≤ j ∧ j < 2 ^ 62) (giv (srcR i j)) S1) _ from q1)
    exact ⟨i, j, by rw [RV.int.mp h1, RV.int.mp h2], c, q1.giv a1.rs _ wk_rng⟩
end

/-! ### defs -/
/-- a def's body as a function; N names -/
def mDef (N : Nat) (body : MS) (ds : List D) (S : Store) : Res D := match body (ds.map some ++ List.replicate (N - ds.length) none) S with
  | .nx _ S' => .ok .non S'
  | .rt d S' => .ok d S'
  | .exc x _ S' => .exc x S'
  | _ => .stuck
/-- what is promised of a def of n parameters: what f says -/
def spF (K : PySem.W.Frag) (mg : Str → Option Value) (n : Nat) (f : MF) : Sp := fun vs H Q E => ∃ (Z : Zt) (ρ : List Addr) (S : Store) (ds : List D), Z.hot = none ∧ ds.length = n ∧ RS K ρ Z H mg S ∧ RVs K ρ Z H ds vs ∧ (match f ds S with
  | .ok d S' => ∀ ρ' H' v, Ext Z ρ H ρ' H' → RS K ρ' Z H' mg S' → RV K ρ' Z H' d v → Q v H'
  | .exc x S' => ∀ ρ' H' c o, Ext Z ρ H ρ' H' → RS K ρ' Z H' mg S' → RX K ρ' Z H' mg x c o → E c o H'
  | .stuck => False)
theorem getElem?_rep {n i : Nat} {d : D} (h : (List.replicate n (none : Option D))[i]? = some (some d)) : False := by
  rw [List.getElem?_replicate] at h
  split at h <;> cases h
theorem re_start {K : PySem.W.Frag} {ρ : List Addr} {Z : Zt} {H : Hp} {ds : List D} {vs : List V} {N : List Str} (r : RVs K ρ Z H ds vs) : RE K ρ Z H (ds.map some ++ List.replicate (N.length - ds.length) none) (L2.start N vs) := by
  have hl := r.length
  refine ⟨?_, fun i d e => ?_⟩
  · unfold L2.start
    simp [hl]
  · by_cases hi : i < ds.length
    · rw [List.getElem?_append_left (by rw [List.length_map]; exact hi), List.getElem?_map] at e
      cases hd : ds[i]? with
      | none => rw [hd] at e; cases e
      | some d' =>
        rw [hd] at e
        cases e
        obtain ⟨v, hv, rv⟩ := r.get hd
        refine ⟨v, ?_, rv⟩
        unfold L2.start
        rw [List.getElem?_append_left (by rw [List.length_map, hl]; exact hi), List.getElem?_map, hv]
        rfl
    · rw [List.getElem?_append_right (by rw [List.length_map]; omega)] at e
      exact (getElem?_rep e).elim
section
variable {P : Program} {w : World} {K : PySem.W.Frag} {mg : Str → Option Value} {base : Heap}
theorem okN {x qual : Str} {st : Stmt} {f : Addr} {fd : FuncData} {N ps : List Str} {k : Nat} {sp : Sp} (F : Fun K x qual st f fd) (S : FnScope N ps (defScope st)) (len : ∀ vs H Q E, sp vs H Q E → vs.length = ps.length)
    (hbody : ∀ (cdv : Value) (A : Around) (outer : List PySem.Env) (s : Shared) (H : Hp) (vs : List V) (Q : VK) (E : XK), Room k (A.deeper (envOfC qual (defScope st) s.heap.objs.size f cdv)) → sp vs H Q E →
      ∃ t, PSs (cxOf (L2N.CX P w) P w K mg base N qual (defScope st) f cdv A outer s H E) (defBody st) t ∧ t { nx := fun _ H' => Q .non H', rt := Q } (L2.start N vs) H) : FnOk P w K mg base (L2N.CX P w) (k + 1) f fd ps sp := by
  obtain ⟨oc, od, kV, doc, pm, an, cdv, ct, osl, rfl, lk, hcd⟩ := F.ex
  exact fn_of lk hcd S len fun A outer s H vs Q E hr hsp => hbody cdv A outer s H vs Q E hr hsp
/-- a def keeps its promise if its body means what body says -/
theorem fn_ok {x qual : Str} {st : Stmt} {f : Addr} {fd : FuncData} {N ps : List Str} {k : Nat} {body : MS} (F : Fun K x qual st f fd) (S : FnScope N ps (defScope st))
    (h : ∀ (cdv : Value) (A : Around) (outer : List PySem.Env) (s : Shared) (H : Hp) (E : XK), Room k (A.deeper (envOfC qual (defScope st) s.heap.objs.size f cdv)) →
      L2N.Takes (cxOf (L2N.CX P w) P w K mg base N qual (defScope st) f cdv A outer s H E) (fun c d _ H => E c d H) →
      PassesOwn (model P w) (cxOf (L2N.CX P w) P w K mg base N qual (defScope st) f cdv A outer s H E).A (cxOf (L2N.CX P w) P w K mg base N qual (defScope st) f cdv A outer s H E).env (cxOf (L2N.CX P w) P w K mg base N qual (defScope st) f cdv A outer s H E).xe →
      SSs (cxOf (L2N.CX P w) P w K mg base N qual (defScope st) f cdv A outer s H E) (fun c d _ H => E c d H) (defBody st) body) : FnOk P w K mg base (L2N.CX P w) (k + 1) f fd ps (spF K mg ps.length (mDef N.length body)) := by
  refine okN F S (fun vs H Q E h => ?_) (fun cdv A outer s H vs Q E hr h2 => ?_)
  · obtain ⟨Z, ρ, S, ds, hn, hl, _, r, _⟩ := h
    rw [r.length, hl]
  · obtain ⟨Z, ρ, St, ds, hn, hl, rs, r, q⟩ := h2
    refine ⟨_, h cdv A outer s H E hr (L2N.takes_of rfl rfl rfl rfl) (passes_of (X := cxOf (L2N.CX P w) P w K mg base N qual (defScope st) f cdv A outer s H E) rfl), Z, ρ, _, St, ⟨rs, re_start r, .none rfl hn⟩, ?_⟩
    unfold mDef at q
    cases eb : body (ds.map some ++ List.replicate (N.length - ds.length) none) St with
    | nx e s => rw [eb] at q; exact fun ρ' H' σ' ee aa => q ρ' H' .non ee aa.rs (RV.non.mpr rfl)
    | ct e s => rw [eb] at q; exact q.elim
    | bk e s => rw [eb] at q; exact q.elim
    | rt d s => rw [eb] at q; exact q
    | exc x e s => rw [eb] at q; exact fun ρ' H' σ' c o ee aa rx => q ρ' H' c o ee aa.rs rx
    | stuck => rw [eb] at q; exact q
/-- no call is allowed: nothing is promised -/
theorem fn_none {f : Addr} {fd : FuncData} {ps : List Str} {n k : Nat} (hn : ps.length = n) : FnOk P w K mg base (L2N.CX P w) k f fd ps (spF K mg n fun _ _ => .stuck) :=
  ⟨fun vs H Q E ⟨_, _, _, _, _, _, _, _, h⟩ => h.elim, fun _ _ _ _ _ _ _ _ _ _ _ _ _ ⟨_, _, _, _, _, _, _, _, h⟩ => h.elim⟩
/-- the law: a list of at most 63 ints, each below 2 ^ 1048576 -/
def spLaw (K : PySem.W.Frag) : Sp := fun vs H Q _ => ∃ (a : Addr) (ns : List Int), vs = [.ref a] ∧ SqL K H a (ns.map V.int) ∧ Only H ∧ ns.length ≤ 63 ∧ (∀ z ∈ ns, Builtin.Int.intBits z ≤ 1048576) ∧ ∀ H', Q (.bl true) H'
theorem law_ok {f : Addr} {fd : FuncData} {ps : List Str} {k : Nat} {g : MF} (F : FnOk P w K mg base (L2N.CX P w) k f fd ps (spF K mg 1 g)) (h : ∀ ns : List Int, ns.length ≤ 63 → (∀ z ∈ ns, Builtin.Int.intBits z ≤ 1048576) → ∃ S', g [.frz (ns.map .int)] [] = .ok (.bl true) S') :
    FnOk P w K mg base (L2N.CX P w) k f fd ps (spLaw K) := F.imp fun vs H Q E ⟨a, ns, hv, hS, hO, hl, hb, q⟩ => by
  obtain ⟨S', e⟩ := h ns hl hb
  refine ⟨⟨[], none⟩, [], [], [.frz (ns.map .int)], rfl, rfl, ⟨rfl, fun n m a h => by simp at h, fun n a o h => by simp at h, fun a h => nomatch (show a ∈ ([] : List Addr) from h)⟩, ?_, ?_⟩
  · rw [hv]
    refine RVs.one (RV.frz.mpr ⟨a, _, rfl, ?_, RVs.ints ns⟩)
    rcases hS with (hS | hS) | hS
    · rcases hO a with z | ⟨o, xs, z⟩
      · rw [hS] at z; cases z
      · rw [hS] at z; cases z
    · exact .inl hS
    · exact .inr hS
  · rw [e]
    exact fun ρ' H' v _ _ r => by rw [RV.bl.mp r]; exact q H'
theorem noCX {H : Hp} {s : Shared} {e : Value} {s' : Shared} (h : L2N.CX P w [] H s (fun _ _ _ => False) e s') : False := by
  obtain ⟨_, _, _, _, _, _, _, _, _, _, _, _, z⟩ := h
  exact z
end
section
variable {X : Cx} {W : WX} {k : Nat} {f : Addr} {fd : FuncData} {ps : List Str} {n : Nat} {g : MF} {x : Str} {p pos : Pos} {e : Expr} {es : List Expr} {mas : MA}
theorem hot_none {Z : Zt} {σ : L2.St} {ρ : List Addr} {H : Hp} {S : Store} {env : Env} (hr : Room k X.A) (a : At X Z ρ H S env σ) : Z.hot = none := by
  cases e : Z.hot with
  | none => rfl
  | some h =>
    have z := (a.hot.at_ h e).1.1
    rw [hr.hd] at z
    cases z
theorem spF_of {Z : Zt} {σ : L2.St} {ρ : List Addr} {H : Hp} {S : Store} {ds : List D} {vs : List V} {Q : VK} (hz : Z.hot = none) (hn : ds.length = n) (s : RS X.K ρ Z H X.mg S) (r : RVs X.K ρ Z H ds vs) (q : GE X W Z σ ρ H (g ds S) (qV X Z Q)) : spF X.K X.mg n g vs H Q (fun c o H => W c o σ H) := by
  refine ⟨Z, ρ, S, ds, hz, hn, s, r, ?_⟩
  cases eg : g ds S with
  | ok d S' => rw [eg] at q; exact fun ρ' H' v e s r => q ρ' H' e s v r
  | exc x S' => rw [eg] at q; exact q
  | stuck => rw [eg] at q; exact q
/-- the right number of arguments -/
def mCall (n : Nat) (g : MF) (mas : MA) (env : Env) (S : Store) : Res D := (bnd (mas env) fun ds => need (ds.length = n) (g ds)) S
theorem se_call (F : FnOk X.prog X.w X.K X.mg X.base (L2N.CX X.prog X.w) k f fd ps (spF X.K X.mg n g)) (hr : Room k X.A) (tk : L2N.Takes X W) (hg : Gl X x) (hm : X.mg x = some (.ref f)) (hk : PySem.W.keepIn X.K (.ref f) = true) (hb : Binds X.K fd ps [])
    (ha : SA X W (e :: es) mas) (hdb : (x == ("__debug__" : Str)) = false := by decide) (he : starEach (e :: es) X.env = (false, eval e X.env) :: starEach es X.env := by rfl) (hpl : (backTo pos (starEach es X.env)).any (·.1) = false := by rfl) :
    SE X W (.Call (.Name x p) (e :: es) [] pos) (mCall n g mas) := by
  refine PE.imp (pe_callSD (E := fun σ c o H => W c o σ H) (dvs := []) (ds := []) F hr hg hm hk hb .nil (fun σ => L2N.passAt tk σ) ha hdb he hpl) fun σ H Q ⟨Z, ρ, env, S, a, q⟩ => ?_
  refine a.firstA q fun ρ1 H1 S1 xs vs a1 e1 rvs q1 => ?_
  obtain ⟨c, q2⟩ := q1.need
  rw [List.append_nil]
  exact spF_of (hot_none hr a1) c a1.rs rvs q2
theorem se_call0 (F : FnOk X.prog X.w X.K X.mg X.base (L2N.CX X.prog X.w) k f fd ps (spF X.K X.mg n g)) (hr : Room k X.A) (hg : Gl X x) (hm : X.mg x = some (.ref f)) (hk : PySem.W.keepIn X.K (.ref f) = true) (hb : Binds X.K fd ps [])
    (hdb : (x == ("__debug__" : Str)) = false := by decide) : True := trivial
end
end Py

set_option Elab.async false
set_option linter.all false
/-! how meanings are worked out: rows that fire on made values alone -/
namespace Py
open PySem PySem.Spec PyProof.Rows L2
section
variable {α β : Type} {S S' : Store} {env env' : Env} {x : Xc} {d : D}
def bndK (k : α → M β) : Res α → Res β
  | .ok a S => k a S
  | .exc x S => .exc x S
  | .stuck => .stuck
theorem x_bnd {m : M α} {k : α → M β} : bnd m k S = bndK k (m S) := by unfold bnd bndK; cases m S <;> rfl
theorem k_ok {k : α → M β} {a : α} : bndK k (.ok a S) = k a S := (rfl)
theorem k_exc {k : α → M β} : bndK k (.exc x S) = .exc x S := (rfl)
theorem k_stuck {k : α → M β} : bndK k .stuck = .stuck := (rfl)
theorem x_giv {a : α} : giv a S = .ok a S := (rfl)
theorem x_fail : (fail S : Res α) = .stuck := (rfl)
def selM (a b : M α) : Bool → M α
  | true => a
  | false => b
theorem selM_t {a b : M α} : selM a b true = a := (rfl)
theorem selM_f {a b : M α} : selM a b false = b := (rfl)
theorem selM_if {a b : M α} {c : Bool} : (if c = true then a else b) = selM a b c := by cases c <;> rfl
def selS (a b : MS) : Bool → MS
  | true => a
  | false => b
theorem selS_t {a b : MS} : selS a b true = a := (rfl)
theorem selS_f {a b : MS} : selS a b false = b := (rfl)
/-! statements -/
def sK (env : Env) (k : α → Store → SR) : Res α → SR
  | .ok a S => k a S
  | .exc x S => .exc x env S
  | .stuck => .stuck
theorem x_sBnd {r : Res α} {k : α → Store → SR} : sBnd r env k = sK env k r := by cases r <;> rfl
theorem sK_ok {k : α → Store → SR} {a : α} : sK env k (.ok a S) = k a S := (rfl)
theorem sK_exc {k : α → Store → SR} : sK env k (.exc x S) = .exc x env S := (rfl)
theorem sK_stuck {k : α → Store → SR} : sK env k .stuck = .stuck := (rfl)
def seqK (b : MS) : SR → SR
  | .nx e s => b e s
  | .bk e s => .bk e s
  | .ct e s => .ct e s
  | .rt d s => .rt d s
  | .exc x e s => .exc x e s
  | .stuck => .stuck
theorem x_seq {a b : MS} : sSeq a b env S = seqK b (a env S) := by unfold sSeq seqK; cases a env S <;> rfl
theorem seq_nx {b : MS} : seqK b (.nx env S) = b env S := (rfl)
theorem seq_bk {b : MS} : seqK b (.bk env S) = .bk env S := (rfl)
theorem seq_ct {b : MS} : seqK b (.ct env S) = .ct env S := (rfl)
theorem seq_rt {b : MS} : seqK b (.rt d S) = .rt d S := (rfl)
theorem seq_exc {b : MS} : seqK b (.exc x env S) = .exc x env S := (rfl)
theorem seq_stuck {b : MS} : seqK b .stuck = .stuck := (rfl)
def kRt (d : D) (S : Store) : SR := .rt d S
theorem x_ret {ma : ME} : sRet ma env S = sK env (fun d S' => .rt d S') (ma env S) := x_sBnd
theorem x_retN : sRetN env S = .rt .non S := (rfl)
theorem x_exp {ma : ME} : sExp ma env S = sK env (fun _ S' => .nx env S') (ma env S) := x_sBnd
theorem x_set {i : Nat} {ma : ME} : sSet i ma env S = sK env (fun d S' => .nx (env.set i (some d)) S') (ma env S) := x_sBnd
theorem x_nil : sNil env S = .nx env S := (rfl)
theorem x_brk : sBreak env S = .bk env S := (rfl)
theorem x_cnt : sCont env S = .ct env S := (rfl)
def tK (k : α → Store → SR) : Res α → SR
  | .ok a S => k a S
  | _ => .stuck
theorem x_tgt {r : Res α} {k : α → Store → SR} : sTgt r k = tK k r := by cases r <;> rfl
theorem tK_ok {k : α → Store → SR} {a : α} : tK k (.ok a S) = k a S := (rfl)
theorem tK_stuck {k : α → Store → SR} : tK k .stuck = .stuck := (rfl)
def asgK (g : MG) (env : Env) (d : D) (S : Store) : SR := tK (fun env' S' => .nx env' S') (g d env S)
theorem x_asgK {g : MG} : asgK g env d S = tK (fun env' S' => .nx env' S') (g d env S) := (rfl)
theorem x_asg {ma : ME} {g : MG} : sAsg ma g env S = sK env (asgK g env) (ma env S) := by
  show sBnd (ma env S) env (fun d S' => sTgt (g d env S') fun env' S'' => .nx env' S'') = _
  rw [x_sBnd]
  exact congrArg (fun k => sK env k (ma env S)) (funext fun d => funext fun S' => x_tgt)
def ifK (a b : MS) (env : Env) (c : Bool) (S : Store) : SR := selS a b c env S
theorem ifK_t {a b : MS} : ifK a b env true S = a env S := (rfl)
theorem ifK_f {a b : MS} : ifK a b env false S = b env S := (rfl)
theorem x_if {t : MT} {a b : MS} : sIf t a b env S = sK env (ifK a b env) (t env S) := by
  unfold sIf
  rw [x_sBnd]
  congr 1
  funext c S'
  cases c <;> rfl
noncomputable def forK (ok : Store → Prop) (g : MG) (b : MS) (ds : List D) : SR → SR
  | .nx e s => forL ok g b ds e s
  | .ct e s => forL ok g b ds e s
  | .bk e s => .nx e s
  | .rt d s => .rt d s
  | .exc x e s => .exc x e s
  | .stuck => .stuck
theorem for_nil {ok : Store → Prop} {g : MG} {b : MS} (h : ok S) : forL ok g b [] env S = .nx env S := by unfold forL; rw [if_pos h]
noncomputable def fgK (ok : Store → Prop) (g : MG) (b : MS) (ds : List D) (e : Env) (S : Store) : SR := forK ok g b ds (b e S)
theorem x_fgK {ok : Store → Prop} {g : MG} {b : MS} {ds : List D} : fgK ok g b ds env S = forK ok g b ds (b env S) := (rfl)
theorem for_cons {ok : Store → Prop} {g : MG} {b : MS} {ds : List D} (h : ok S) : forL ok g b (d :: ds) env S = tK (fgK ok g b ds) (g d env S) := by
  rw [forL, if_pos h, x_tgt]
  refine congrArg (fun k => tK k (g d env S)) (funext fun e1 => funext fun S1 => ?_)
  unfold fgK forK
  cases b e1 S1 <;> rfl
theorem fK_nx {ok : Store → Prop} {g : MG} {b : MS} {ds : List D} : forK ok g b ds (.nx env S) = forL ok g b ds env S := (rfl)
theorem fK_ct {ok : Store → Prop} {g : MG} {b : MS} {ds : List D} : forK ok g b ds (.ct env S) = forL ok g b ds env S := (rfl)
theorem fK_bk {ok : Store → Prop} {g : MG} {b : MS} {ds : List D} : forK ok g b ds (.bk env S) = .nx env S := (rfl)
theorem fK_rt {ok : Store → Prop} {g : MG} {b : MS} {ds : List D} : forK ok g b ds (.rt d S) = .rt d S := (rfl)
theorem fK_exc {ok : Store → Prop} {g : MG} {b : MS} {ds : List D} : forK ok g b ds (.exc x env S) = .exc x env S := (rfl)
theorem ok_nil {ds : List D} {S : Store} : (Src.mk ds []).ok S := fun p hp => nomatch hp
theorem ok_one {ds es : List D} {n : Nat} {S : Store} (h : S[n]? = some (.lst es)) : (Src.mk ds [(n, es)]).ok S := fun p hp => by
  have e : p = (n, es) := by simpa using hp
  rw [e]
  exact h
/-- over items that need nothing kept -/
noncomputable def forP (g : MG) (b : MS) (ds : List D) : MS := forL (fun _ => True) g b ds
theorem for_src {g : MG} {b : MS} {ds : List D} : forL (Src.mk ds []).ok g b ds env S = forP g b ds env S := by
  have e : (Src.mk ds []).ok = fun _ => True := by
    funext S
    exact propext ⟨fun _ => trivial, fun _ => ok_nil⟩
  rw [e]
  rfl
noncomputable def fpK (g : MG) (b : MS) (ds : List D) (e : Env) (S : Store) : SR := forK (fun _ => True) g b ds (b e S)
theorem x_fpK {g : MG} {b : MS} {ds : List D} : fpK g b ds env S = forK (fun _ => True) g b ds (b env S) := (rfl)
theorem fp_nil {g : MG} {b : MS} : forP g b [] env S = .nx env S := for_nil trivial
theorem fp_cons {g : MG} {b : MS} {ds : List D} : forP g b (d :: ds) env S = tK (fpK g b ds) (g d env S) := for_cons trivial
theorem fpK_nx {g : MG} {b : MS} {ds : List D} : forK (fun _ => True) g b ds (.nx env S) = forP g b ds env S := (rfl)
theorem fpK_ct {g : MG} {b : MS} {ds : List D} : forK (fun _ => True) g b ds (.ct env S) = forP g b ds env S := (rfl)
noncomputable def srcK (g : MG) (b : MS) (env : Env) (src : Src) (S : Store) : SR := forL src.ok g b src.ds env S
theorem srcK_nil {g : MG} {b : MS} {ds : List D} : srcK g b env (Src.mk ds []) S = forP g b ds env S := for_src
theorem srcK_keep {g : MG} {b : MS} {ds : List D} {p : Nat × List D} {ps : List (Nat × List D)} : srcK g b env (Src.mk ds (p :: ps)) S = forL (Src.mk ds (p :: ps)).ok g b ds env S := (rfl)
theorem srcK_rng {g : MG} {b : MS} {i j : Int} : srcK g b env (srcR i j) S = forP g b ((List.range (j - i).toNat).map fun (k : Nat) => .int (i + k)) env S := for_src
theorem x_for {mi : Env → M Src} {g : MG} {b : MS} : sFor mi g b env S = sK env (srcK g b env) (mi env S) := x_sBnd
def defK : SR → Res D
  | .nx _ S' => .ok .non S'
  | .rt d S' => .ok d S'
  | .exc x _ S' => .exc x S'
  | _ => .stuck
theorem x_def {N : Nat} {body : MS} {ds : List D} : mDef N body ds S = defK (body (ds.map some ++ List.replicate (N - ds.length) none) S) := by
  unfold mDef defK
  cases body (ds.map some ++ List.replicate (N - ds.length) none) S <;> rfl
theorem defK_rt : defK (.rt d S) = .ok d S := (rfl)
theorem defK_nx : defK (.nx env S) = .ok .non S := (rfl)
theorem defK_exc : defK (.exc x env S) = .exc x S := (rfl)
/-! expressions -/
theorem slot_some : slotM (some (some d)) S = .ok d S := (rfl)
theorem x_slot {i : Nat} : mSlot i env S = slotM env[i]? S := (rfl)
theorem x_c : mC d env S = .ok d S := (rfl)
theorem x_Nil : mNil env S = .ok [] S := (rfl)
def consK (mas : MA) (env : Env) (d : D) : M (List D) := bnd (mas env) fun xs => giv (d :: xs)
theorem x_consK {mas : MA} : consK mas env d S = bndK (fun xs => giv (d :: xs)) (mas env S) := x_bnd
theorem x_cons {ma : ME} {mas : MA} : mCons ma mas env S = bndK (consK mas env) (ma env S) := x_bnd
theorem x_F {g : MF} {mas : MA} : mF g mas env S = bndK g (mas env S) := x_bnd
def m2K (f : D → D → M D) (mb : ME) (env : Env) (d : D) : M D := bnd (mb env) fun y => f d y
theorem x_m2K {f : D → D → M D} {mb : ME} : m2K f mb env d S = bndK (f d) (mb env S) := x_bnd
theorem x_m2 {f : D → D → M D} {ma mb : ME} : m2 f ma mb env S = bndK (m2K f mb env) (ma env S) := x_bnd
theorem x_m1 {f : D → M D} {ma : ME} : m1 f ma env S = bndK f (ma env S) := x_bnd
theorem x_B {ma : ME} : mB ma env S = bndK asB (ma env S) := x_bnd
theorem x_T {ma : ME} : mT ma env S = bndK asT (ma env S) := x_bnd
theorem asB_bl {b : Bool} : asB (.bl b) S = .ok b S := (rfl)
theorem asT_bl {b : Bool} : asT (.bl b) S = .ok b S := (rfl)
theorem asT_int {i : Int} : asT (.int i) S = .ok (i != 0) S := (rfl)
theorem asT_non : asT .non S = .ok false S := (rfl)
theorem asT_tup {ds : List D} : asT (.tup ds) S = .ok (!ds.isEmpty) S := (rfl)
theorem asT_rol {ds : List D} : asT (.rol ds) S = .ok (!ds.isEmpty) S := (rfl)
theorem asT_frz {ds : List D} : asT (.frz ds) S = .ok (!ds.isEmpty) S := (rfl)
def andK (tb : MT) (env : Env) (c : Bool) : M Bool := selM (tb env) (giv false) c
def orK (tb : MT) (env : Env) (c : Bool) : M Bool := selM (giv true) (tb env) c
theorem x_And {ta tb : MT} : mAnd ta tb env S = bndK (andK tb env) (ta env S) := by
  unfold mAnd
  rw [x_bnd]
  congr 1
  funext c
  exact selM_if
theorem x_Or {ta tb : MT} : mOr ta tb env S = bndK (orK tb env) (ta env S) := by
  unfold mOr
  rw [x_bnd]
  congr 1
  funext c
  exact selM_if
theorem andK_t {tb : MT} : andK tb env true S = tb env S := (rfl)
theorem andK_f {tb : MT} : andK tb env false S = .ok false S := (rfl)
theorem orK_t {tb : MT} : orK tb env true S = .ok true S := (rfl)
theorem orK_f {tb : MT} : orK tb env false S = tb env S := (rfl)
theorem x_Not {ta : MT} : mNot ta env S = bndK (fun c => giv (!c)) (ta env S) := x_bnd
def andVK (mb : ME) (env : Env) (d : D) : M D := bnd (asT d) (selM (mb env) (giv d))
def orVK (mb : ME) (env : Env) (d : D) : M D := bnd (asT d) (selM (giv d) (mb env))
theorem x_AndV {ma mb : ME} : mAndV ma mb env S = bndK (andVK mb env) (ma env S) := by
  unfold mAndV
  rw [x_bnd]
  congr 1
  funext d
  unfold andVK
  congr 1
  funext c
  exact selM_if
theorem x_OrV {ma mb : ME} : mOrV ma mb env S = bndK (orVK mb env) (ma env S) := by
  unfold mOrV
  rw [x_bnd]
  congr 1
  funext d
  unfold orVK
  congr 1
  funext c
  exact selM_if
theorem x_andVK {mb : ME} : andVK mb env d S = bndK (selM (mb env) (giv d)) (asT d S) := x_bnd
theorem x_orVK {mb : ME} : orVK mb env d S = bndK (selM (giv d) (mb env)) (asT d S) := x_bnd
theorem x_NotV {ma : ME} : mNotV ma env S = bndK (fun d => bnd (asT d) fun c => giv (.bl (!c))) (ma env S) := x_bnd
def ifEK (ma mb : ME) (env : Env) (c : Bool) : M D := selM (ma env) (mb env) c
theorem x_IfE {t : MT} {ma mb : ME} : mIfE t ma mb env S = bndK (ifEK ma mb env) (t env S) := by
  unfold mIfE
  rw [x_bnd]
  congr 1
  funext c
  exact selM_if
theorem ifEK_t {ma mb : ME} : ifEK ma mb env true S = ma env S := (rfl)
theorem ifEK_f {ma mb : ME} : ifEK ma mb env false S = mb env S := (rfl)
theorem x_Tup {mas : MA} : mTup mas env S = bndK (fun xs => small xs.length (giv (.tup xs))) (mas env S) := x_bnd
theorem x_Lst {o : Bool} {mas : MA} : mLst o mas env S = bndK (fun xs => small xs.length (mkL o xs)) (mas env S) := x_bnd
theorem x_need {c : Prop} [Decidable c] {m : M α} (h : c) : need c m S = m S := if_pos h
theorem small_lit {n : Nat} (h : n ≤ 1000) : n ≤ sizeLine := Nat.le_of_lt (small1000 h)
theorem x_small {n : Nat} {m : M D} (h : n ≤ 1000) : small n m S = m S := if_pos (small_lit h)
theorem x_mkF {ds : List D} : mkL false ds S = .ok (.rol ds) S := (rfl)
theorem x_mkT {ds : List D} : mkL true ds S = .ok (.obj S.length) (S ++ [.lst ds]) := (rfl)
theorem x_Call {n : Nat} {g : MF} {mas : MA} : mCall n g mas env S = bndK (fun ds => need (ds.length = n) (g ds)) (mas env S) := x_bnd
/-! data -/
variable {i j : Int} {a b : D} {ds es : List D} {s t : Str} {o : Bool}
theorem add_ii : dAdd o (.int i) (.int j) S = .ok (.int (i + j)) S := (rfl)
theorem sub_ii : dSub (.int i) (.int j) S = .ok (.int (i - j)) S := (rfl)
theorem mul_ii (h : CMulW i j) : dMul (.int i) (.int j) S = .ok (.int (i * j)) S := if_pos h
theorem div_ii (h : CDivZ i j) : dDiv (.int i) (.int j) S = .ok (.int (i.fdiv j)) S := if_pos h
theorem mod_ii (h : j ≠ 0) : dMod (.int i) (.int j) S = .ok (.int (i.fmod j)) S := if_pos h
theorem pow_ii (h : CPow i j) : dPow (.int i) (.int j) S = .ok (.int (i ^ j.toNat)) S := if_pos h
theorem neg_i : dNeg (.int i) S = .ok (.int (-i)) S := (rfl)
theorem cmp_ii {p : Int → Int → Bool} : dCmp p (.int i) (.int j) S = .ok (.bl (p i j)) S := (rfl)
theorem eq_ii : dEq (.int i) (.int j) S = .ok (.bl (decide (i = j))) S := (rfl)
theorem eq_bb {p q : Bool} : dEq (.bl p) (.bl q) S = .ok (.bl (decide (p = q))) S := (rfl)
theorem eq_ss : dEq (.str s) (.str t) S = .ok (.bl (decide (s = t))) S := (rfl)
theorem ne_ii : dNe (.int i) (.int j) S = .ok (.bl (!decide (i = j))) S := (rfl)
theorem ne_ss : dNe (.str s) (.str t) S = .ok (.bl (!decide (s = t))) S := (rfl)
theorem is_n : dIs a .non S = .ok (.bl (isNon a)) S := by cases a <;> rfl
theorem isnot_n : dIsNot a .non S = .ok (.bl (!isNon a)) S := by cases a <;> rfl
theorem non_n : isNon .non = true := (rfl)
theorem non_i : isNon (.int i) = false := (rfl)
theorem non_b {p : Bool} : isNon (.bl p) = false := (rfl)
theorem non_s : isNon (.str s) = false := (rfl)
theorem non_t : isNon (.tup ds) = false := (rfl)
theorem non_r : isNon (.rol ds) = false := (rfl)
theorem non_o {n : Nat} : isNon (.obj n) = false := (rfl)
theorem ix_t : dIx (.tup ds) (.int i) S = opt (atI ds i) giv S := (rfl)
theorem ix_r : dIx (.rol ds) (.int i) S = opt (atI ds i) giv S := (rfl)
theorem ix_f : dIx (.frz ds) (.int i) S = opt (atI ds i) giv S := (rfl)
theorem ix_o {n : Nat} (h : S[n]? = some (.lst ds)) : dIx (.obj n) (.int i) S = opt (atI ds i) giv S := by
  have e : dIx (.obj n) (.int i) S = bndK (fun ds => opt (atI ds i) giv) (lstO S[n]? S) := x_bnd
  rw [e, h]
  rfl
theorem lst_s : lstO (some (.lst ds)) S = .ok ds S := (rfl)
theorem ix_oo {n : Nat} : dIx (.obj n) (.int i) S = bndK (fun ds => opt (atI ds i) giv) (lstO S[n]? S) := x_bnd
theorem len_oo {n : Nat} : gLen [.obj n] S = bndK (fun ds => giv (.int ds.length)) (lstO S[n]? S) := x_bnd
theorem srcL_oo {n : Nat} : srcL (.obj n) S = bndK (fun ds => giv ⟨ds, [(n, ds)]⟩) (lstO S[n]? S) := x_bnd
theorem set_oo {n : Nat} : dSet (.obj n) (.int i) d S = setO n S[n]? i d S := (rfl)
theorem setO_l {n : Nat} : setO n (some (.lst ds)) i d S = opt (ixN ds.length i) (fun j S => .ok () (S.set n (.lst (ds.set j d)))) S := (rfl)
theorem opt_s {k : α → M β} {z : α} : opt (some z) k S = k z S := (rfl)
theorem len_t : gLen [.tup ds] S = .ok (.int ds.length) S := (rfl)
theorem len_r : gLen [.rol ds] S = .ok (.int ds.length) S := (rfl)
theorem len_f : gLen [.frz ds] S = .ok (.int ds.length) S := (rfl)
theorem len_o {n : Nat} (h : S[n]? = some (.lst ds)) : gLen [.obj n] S = .ok (.int ds.length) S := by
  have e : gLen [.obj n] S = bndK (fun ds => giv (.int ds.length)) (lstO S[n]? S) := x_bnd
  rw [e, h]
  rfl
theorem len_s (h : s.length ≤ sizeLine) : gLen [.str s] S = .ok (.int s.length) S := if_pos h
theorem abs_i : gAbs [.int i] S = .ok (.int (if i < 0 then -i else i)) S := (rfl)
theorem int_i : gInt [.int i] S = .ok (.int i) S := (rfl)
theorem int_b {p : Bool} : gInt [.bl p] S = .ok (.int (if p then 1 else 0)) S := (rfl)
theorem max_ii : gMax2 [.int i, .int j] S = .ok (.int (if j > i then j else i)) S := (rfl)
theorem min_ii : gMin2 [.int i, .int j] S = .ok (.int (if j < i then j else i)) S := (rfl)
theorem gcd_ii : gGcd [.int i, .int j] S = .ok (.int ((Nat.gcd i.natAbs j.natAbs : Nat) : Int)) S := (rfl)
theorem list_f : gList o [.frz ds] S = mkL o ds S := (rfl)
theorem list_r : gList o [.rol ds] S = mkL o ds S := (rfl)
theorem list_t : gList o [.tup ds] S = mkL o ds S := (rfl)
theorem tuple_r : gTuple [.rol ds] S = .ok (.tup ds) S := (rfl)
theorem tuple_t : gTuple [.tup ds] S = .ok (.tup ds) S := (rfl)
theorem x_It {ma mb : ME} : gIt ma mb d env S = bndK (fun o => bnd (mb env) fun i => bnd (dSet o i d) fun _ => giv env) (ma env S) := x_bnd
theorem x_Nm {i : Nat} : gNm i d env S = .ok (env.set i (some d)) S := (rfl)
theorem set_o {n k : Nat} (h : S[n]? = some (.lst ds)) (hi : ixN ds.length i = some k) : dSet (.obj n) (.int i) d S = .ok () (S.set n (.lst (ds.set k d))) := by
  show setO n S[n]? i d S = _
  rw [h]
  show opt (ixN ds.length i) (fun j S => .ok () (S.set n (.lst (ds.set j d)))) S = _
  rw [hi]
  rfl
theorem x_Tp {n : Nat} {gs : MGs} : gTp n gs (.tup ds) env S = need (ds.length = n) (gs ds env) S := (rfl)
theorem x_gN : gsNil [] env S = .ok env S := (rfl)
theorem x_gC {g : MG} {gs : MGs} : gsCons g gs (d :: ds) env S = bndK (fun env' => gs ds env') (g d env S) := x_bnd
theorem x_iE {f : D → M Src} {ma : ME} : iE f ma env S = bndK f (ma env S) := x_bnd
theorem x_iF {f : List D → M Src} {mas : MA} : iF f mas env S = bndK f (mas env S) := x_bnd
theorem srcL_f : srcL (.frz ds) S = .ok ⟨ds, []⟩ S := (rfl)
theorem srcL_r : srcL (.rol ds) S = .ok ⟨ds, []⟩ S := (rfl)
theorem srcL_o {n : Nat} (h : S[n]? = some (.lst ds)) : srcL (.obj n) S = .ok ⟨ds, [(n, ds)]⟩ S := by
  have e : srcL (.obj n) S = bndK (fun ds => giv ⟨ds, [(n, ds)]⟩) (lstO S[n]? S) := x_bnd
  rw [e, h]
  rfl
theorem srcT_t : srcT (.tup ds) S = .ok ⟨ds, []⟩ S := (rfl)
theorem srcS_s : srcS (.str s) S = .ok ⟨s.cps.toList.map fun c => .str ⟨#[c]⟩, []⟩ S := (rfl)
theorem rng1_i (h : -(2 ^ 62) ≤ j ∧ j < 2 ^ 62) : rng1 [.int j] S = .ok (srcR 0 j) S := if_pos h
theorem rng2_i (h : -(2 ^ 62) ≤ i ∧ i < 2 ^ 62 ∧ -(2 ^ 62) ≤ j ∧ j < 2 ^ 62) : rng2 [.int i, .int j] S = .ok (srcR i j) S := if_pos h
def isiK (T : String) (d : D) (S : Store) : Res D := match (tyD d S).bind (fun t => kitB t T) with
  | some b => .ok (.bl b) S
  | none => .stuck
theorem x_Isi {T : String} {ma : ME} : mIsi T ma env S = bndK (isiK T) (ma env S) := x_bnd
theorem isi_of {T t : String} {r : Bool} (h : tyD d S = some t) (k : kitB t T = some r) : isiK T d S = .ok (.bl r) S := by unfold isiK; rw [h]; simp only [Option.bind_some, k]
section
theorem isi_tt : isiK "tuple" (.tup ds) S = .ok (.bl true) S := isi_of rfl (by decide +kernel)
theorem isi_ti : isiK "tuple" (.int i) S = .ok (.bl false) S := isi_of rfl (by decide +kernel)
theorem isi_tn : isiK "tuple" .non S = .ok (.bl false) S := isi_of rfl (by decide +kernel)
theorem isi_tb {p : Bool} : isiK "tuple" (.bl p) S = .ok (.bl false) S := isi_of rfl (by decide +kernel)
theorem isi_ts : isiK "tuple" (.str s) S = .ok (.bl false) S := isi_of rfl (by decide +kernel)
theorem isi_bt : isiK "bool" (.tup ds) S = .ok (.bl false) S := isi_of rfl (by decide +kernel)
theorem isi_bi : isiK "bool" (.int i) S = .ok (.bl false) S := isi_of rfl (by decide +kernel)
theorem isi_bn : isiK "bool" .non S = .ok (.bl false) S := isi_of rfl (by decide +kernel)
theorem isi_bb {p : Bool} : isiK "bool" (.bl p) S = .ok (.bl true) S := isi_of rfl (by decide +kernel)
theorem isi_bs : isiK "bool" (.str s) S = .ok (.bl false) S := isi_of rfl (by decide +kernel)
theorem isi_st : isiK "str" (.tup ds) S = .ok (.bl false) S := isi_of rfl (by decide +kernel)
theorem isi_si : isiK "str" (.int i) S = .ok (.bl false) S := isi_of rfl (by decide +kernel)
theorem isi_sn : isiK "str" .non S = .ok (.bl false) S := isi_of rfl (by decide +kernel)
theorem isi_sb {p : Bool} : isiK "str" (.bl p) S = .ok (.bl false) S := isi_of rfl (by decide +kernel)
theorem isi_ss : isiK "str" (.str s) S = .ok (.bl true) S := isi_of rfl (by decide +kernel)
theorem isi_it : isiK "int" (.tup ds) S = .ok (.bl false) S := isi_of rfl (by decide +kernel)
theorem isi_ii : isiK "int" (.int i) S = .ok (.bl true) S := isi_of rfl (by decide +kernel)
theorem isi_in : isiK "int" .non S = .ok (.bl false) S := isi_of rfl (by decide +kernel)
theorem isi_ib {p : Bool} : isiK "int" (.bl p) S = .ok (.bl true) S := isi_of rfl (by decide +kernel)
theorem isi_is : isiK "int" (.str s) S = .ok (.bl false) S := isi_of rfl (by decide +kernel)
end
/-! items by a written place -/
theorem at0 {α : Type} {x : α} {l : List α} : atI (x :: l) 0 = some x := atI_nat (j := 0) rfl
theorem at1 {α : Type} {x y : α} {l : List α} : atI (x :: y :: l) 1 = some y := atI_nat (j := 1) rfl
theorem at2 {α : Type} {x y z : α} {l : List α} : atI (x :: y :: z :: l) 2 = some z := atI_nat (j := 2) rfl
theorem at3 {α : Type} {x y z u : α} {l : List α} : atI (x :: y :: z :: u :: l) 3 = some u := atI_nat (j := 3) rfl
theorem ixN_nat {n j : Nat} (h : j < n) : ixN n (j : Int) = some j := by
  unfold ixN
  rw [if_pos (by omega), if_pos (by omega)]
  rfl
theorem ix0 {n : Nat} : ixN (n + 1) 0 = some 0 := ixN_nat (j := 0) (by omega)
theorem ix1 {n : Nat} : ixN (n + 2) 1 = some 1 := ixN_nat (j := 1) (by omega)
theorem ix2 {n : Nat} : ixN (n + 3) 2 = some 2 := ixN_nat (j := 2) (by omega)
theorem ix3 {n : Nat} : ixN (n + 4) 3 = some 3 := ixN_nat (j := 3) (by omega)
/-- while -/
theorem whileN_mono {t : MT} {b : MS} : ∀ {n m : Nat} {env : Env} {S : Store}, n ≤ m → whileN t b n env S ≠ .stuck → whileN t b m env S = whileN t b n env S := by
  intro n
  induction n with
  | zero => intro m env S _ h; exact (h rfl).elim
  | succ n ih =>
    intro m env S hm h
    cases m with
    | zero => omega
    | succ m =>
      unfold whileN at h ⊢
      cases et : t env S with
      | exc x S' => rfl
      | stuck => rfl
      | ok c S' =>
        rw [et] at h
        cases c with
        | false => rfl
        | true =>
          have h : (match b env S' with
            | .nx e s => whileN t b n e s
            | .ct e s => whileN t b n e s
            | .bk e s => SR.nx e s
            | .rt d s => .rt d s
            | .exc x e s => .exc x e s
            | .stuck => .stuck) ≠ .stuck := h
          show (match b env S' with
            | .nx e s => whileN t b m e s
            | .ct e s => whileN t b m e s
            | .bk e s => SR.nx e s
            | .rt d s => .rt d s
            | .exc x e s => .exc x e s
            | .stuck => .stuck) = (match b env S' with
            | .nx e s => whileN t b n e s
            | .ct e s => whileN t b n e s
            | .bk e s => SR.nx e s
            | .rt d s => .rt d s
            | .exc x e s => .exc x e s
            | .stuck => .stuck)
          cases eb : b env S' with
          | nx e s => rw [eb] at h; exact ih (by omega) h
          | ct e s => rw [eb] at h; exact ih (by omega) h
          | bk e s => rfl
          | rt d s => rfl
          | exc x e s => rfl
          | stuck => rfl
theorem while_of {t : MT} {b : MS} {n : Nat} {r : SR} (h : whileN t b n env S = r) (hr : r ≠ .stuck) : sWhile t b env S = r := by
  have hx : ∃ n, whileN t b n env S ≠ .stuck := ⟨n, by rw [h]; exact hr⟩
  unfold sWhile
  rw [dif_pos hx]
  have h2 := Classical.choose_spec hx
  by_cases hn : n ≤ Classical.choose hx
  · rw [whileN_mono hn (by rw [h]; exact hr), h]
  · rw [← h]
    exact (whileN_mono (by omega) h2).symm
def whK (t : MT) (b : MS) (n : Nat) : SR → SR
  | .nx e s => whileN t b n e s
  | .ct e s => whileN t b n e s
  | .bk e s => .nx e s
  | .rt d s => .rt d s
  | .exc x e s => .exc x e s
  | .stuck => .stuck
def whC (t : MT) (b : MS) (n : Nat) (env : Env) (c : Bool) (S : Store) : SR := match c with
  | true => whK t b n (b env S)
  | false => .nx env S
theorem x_whN {t : MT} {b : MS} {n : Nat} : whileN t b (n + 1) env S = sK env (whC t b n env) (t env S) := by
  rw [whileN, x_sBnd]
  congr 1
  funext c S'
  cases c with
  | false => rfl
  | true =>
    show (match b env S' with
            | .nx e s => whileN t b n e s
            | .ct e s => whileN t b n e s
            | .bk e s => SR.nx e s
            | .rt d s => .rt d s
            | .exc x e s => .exc x e s
            | .stuck => .stuck) = whK t b n (b env S')
    unfold whK
    cases b env S' <;> rfl
theorem whC_t {t : MT} {b : MS} {n : Nat} : whC t b n env true S = whK t b n (b env S) := (rfl)
theorem whC_f {t : MT} {b : MS} {n : Nat} : whC t b n env false S = .nx env S := (rfl)
theorem whK_nx {t : MT} {b : MS} {n : Nat} : whK t b n (.nx env S) = whileN t b n env S := (rfl)
theorem whK_ct {t : MT} {b : MS} {n : Nat} : whK t b n (.ct env S) = whileN t b n env S := (rfl)
theorem whK_bk {t : MT} {b : MS} {n : Nat} : whK t b n (.bk env S) = .nx env S := (rfl)
theorem whK_rt {t : MT} {b : MS} {n : Nat} : whK t b n (.rt d S) = .rt d S := (rfl)
end
end Py

set_option Elab.async false
set_option linter.all false
set_option maxRecDepth 100000
/-! methods of built-in types, texts of numbers -/
namespace Py
open PySem PySem.Spec PyProof.Rows L2
def tyMO (T : String) : Option Ob → M Unit
  | some (.lst _) => need (T = "list") (giv ())
  | some (.dct _) => need (T = "dict") (giv ())
  | _ => fail
/-- of this type -/
def tyM (T : String) : D → M Unit
  | .str _ => need (T = "str") (giv ())
  | .rol _ => need (T = "list") (giv ())
  | .frz _ => need (T = "list") (giv ())
  | .obj n => fun S => tyMO T S[n]? S
  | _ => fail
def OM (X : Cx) (W : WX) (r : V → List V → Hp → VK → Prop) (g : D → MF) : Prop := ∀ Z σ ρ H S x v ds vs Q, RS X.K ρ Z H X.mg S → RV X.K ρ Z H x v → RVs X.K ρ Z H ds vs → GE X W Z σ ρ H (g x ds S) (qV X Z Q) → r v vs H Q
def mMe (T : String) (g : D → MF) (ma : ME) (mas : MA) (env : Env) (S : Store) : Res D := (bnd (ma env) fun x => bnd (tyM T x) fun _ => bnd (mas env) fun ds => g x ds) S
def mMe0 (T : String) (g : D → MF) (ma : ME) (env : Env) (S : Store) : Res D := (bnd (ma env) fun x => bnd (tyM T x) fun _ => g x []) S
section
variable {X : Cx} {W : WX} {pos cpos apos p : Pos} {o e e2 : Expr} {es : List Expr} {ma mb mc : ME} {mas : MA} {r : V → List V → Hp → VK → Prop} {g : D → MF} {T id : String} {name : Str}
theorem GE.tyM {ρ : List Addr} {Z : Zt} {H : Hp} {S : Store} {σ : L2.St} {β : Type} {d : D} {v : V} {k : Unit → M β} {Q : β → Store → List Addr → Hp → Prop} (s : RS X.K ρ Z H X.mg S) (r : RV X.K ρ Z H d v) (q : GE X W Z σ ρ H (Py.bnd (Py.tyM T d) k S) Q) :
    tyV X.K T v H ∧ GE X W Z σ ρ H (k () S) Q := by
  have nd : ∀ (c : Prop) [Decidable c] (S : Store), GE X W Z σ ρ H (Py.bnd (Py.need c (Py.giv ())) k S) Q → c ∧ GE X W Z σ ρ H (k () S) Q := fun c _ S q => by
    by_cases h : c
    · have e : Py.need c (Py.giv ()) S = .ok () S := if_pos h
      unfold Py.bnd at q
      rw [e] at q
      exact ⟨h, q⟩
    · have e : (Py.need c (Py.giv ()) S : Res Unit) = .stuck := if_neg h
      unfold Py.bnd at q
      rw [e] at q
      exact q.elim
  cases d with
  | str z =>
    obtain ⟨h, q⟩ := nd _ _ q
    rw [RV.str.mp r]
    exact ⟨h, q⟩
  | rol ds =>
    obtain ⟨h, q⟩ := nd _ _ q
    obtain ⟨a, xs, rfl, h2, h3⟩ := RV.rol.mp r
    exact ⟨.inl ⟨h, xs, SqL.of h2.1⟩, q⟩
  | frz ds =>
    obtain ⟨h, q⟩ := nd _ _ q
    obtain ⟨a, xs, rfl, h2, h3⟩ := RV.frz.mp r
    exact ⟨.inl ⟨h, xs, h2.seq⟩, q⟩
  | obj n =>
    obtain ⟨a, h1, rfl⟩ := RV.obj.mp r
    obtain ⟨ob, u, e1, e2, e3⟩ := s.there h1
    have q : GE X W Z σ ρ H (Py.bnd (fun S => tyMO T S[n]? S) k S) Q := q
    have q : GE X W Z σ ρ H (Py.bnd (tyMO T (some ob)) k S) Q := by
      unfold Py.bnd at q ⊢
      simp only [e1] at q
      exact q
    cases ob with
    | lst ds =>
      obtain ⟨h, q⟩ := nd _ _ q
      obtain ⟨xs, h2, h3⟩ := e2
      exact ⟨.inl ⟨h, xs, SqL.of h2⟩, q⟩
    | dct ds =>
      obtain ⟨h, q⟩ := nd _ _ q
      obtain ⟨xs, h2, h3⟩ := e2
      exact ⟨.inr (.inr (.inl ⟨h, .inl ⟨xs, h2⟩⟩)), q⟩
    | ins _ _ => exact q.elim
  | _ => exact q.elim
theorem se_me (pa : PlainAttrs T) (slot : Slot T name id) (hty : typeOf (.builtin id) = pure (.type "method_descriptor")) (hm : MtR X id r) (h : OM X W r g) (ho : SE X W o ma) (ha : SA X W (e :: es) mas)
    (hbase : attributeBase o name X.env (eval o X.env) = eval o X.env := by rfl)
    (hfew : ((backTo cpos (starEach (e :: es) X.env)).all (fun x => !x.1) && (backToKw cpos (keywordEach [] X.env)).all (fun x => x.1.isSome)
      && decide ((e :: es).length + ([] : List Keyword).length + (if ([] : List Keyword).isEmpty then 0 else 1) < 30)) = true := by rfl)
    (hline : (apos.endLine == cpos.line) = true := by rfl) (hs : starEach (e :: es) X.env = (false, eval e X.env) :: starEach es X.env := by rfl) (hplain : (backTo cpos (starEach es X.env)).any (·.1) = false := by rfl) :
    SE X W (.Call (.Attribute o name apos) (e :: es) [] cpos) (mMe T g ma mas) := by
  refine PE.imp (pe_bm pa slot hty hm ho ha hbase hfew hline hs hplain) fun σ H Q ⟨Z, ρ, env, S, a, q⟩ => ?_
  refine a.first q fun ρ1 H1 S1 x v a1 e1 rv q1 => ?_
  obtain ⟨ty, q1⟩ := GE.tyM a1.rs rv q1
  refine ⟨ty, a1.firstA q1 fun ρ2 H2 S2 ds vs a2 e2 rvs q2 => ?_⟩
  exact h Z σ ρ2 H2 S2 x v ds vs Q a2.rs (rv.ext e2) rvs q2
theorem se_me0 (pa : PlainAttrs T) (slot : Slot T name id) (hty : typeOf (.builtin id) = pure (.type "method_descriptor")) (hm : MtR X id r) (h : OM X W r g) (ho : SE X W o ma)
    (hbase : attributeBase o name X.env (eval o X.env) = eval o X.env := by rfl) (hline : (apos.endLine == cpos.line) = true := by rfl) : SE X W (.Call (.Attribute o name apos) [] [] cpos) (mMe0 T g ma) := by
  refine PE.imp (pe_bm0 pa slot hty hm ho hbase hline) fun σ H Q ⟨Z, ρ, env, S, a, q⟩ => ?_
  refine a.first q fun ρ1 H1 S1 x v a1 e1 rv q1 => ?_
  obtain ⟨ty, q1⟩ := GE.tyM a1.rs rv q1
  exact ⟨ty, h Z σ ρ1 H1 S1 x v [] [] Q a1.rs rv (RVs.nil.mpr rfl) q1⟩

/-! ### lists that change -/
open PySem.AutoSeq1 in
theorem extend_tuple (l : Addr) (items : Array Value) (n : Nat) (b : Addr) (items2 : Array Value) (n2 : Nat) (dd : Option Addr) (sl : Array (Option Value)) (hs0 : ¬(!items.isEmpty && Builtin.List.listTooLong (items.size + items2.size)) = true) (hs1 : items.size ≤ sizeLine) (hs2 : items.size + items2.size ≤ sizeLine + 1) :
    Meets (Builtin.«list.extend» ⟨[.ref l, .ref b], []⟩) (fun _ R s => s.heap.get? l = some { cls := .type "list", dict := none, data := .seq items n, slots := #[] } ∧ s.heap.get? b = some ⟨.type "tuple", dd, .seq items2 n2, sl⟩ ∧ R (.ok (.ret Value.none)) { s with heap := s.heap.update l (Obj.mapSeq fun x => x ++ items2), toks := s.toks }) :=
  .of_wp fun prog w A R s h => by
    obtain ⟨hp, g, d, tk, os⟩ := s; obtain ⟨hl, hb, h⟩ := h; have f1 := idx_int; have f2 := PySem.AutoSeq1.sub_tuple_tuple; have f3 := PySem.AutoSeq1.sub_list_list; have f4 := PySem.AutoSeq1.sub_tuple_list; have f5 := PySem.AutoSeq1.sub_list_tuple;
    have hz' : (items ++ items2).size ≤ sizeLine + 1 := by rw [Array.size_append]; exact hs2
    wp_walk using (wpAny_updateSeq hl rfl (hz := hs1) (_hz' := hz')), wpAny_loadPart' hl, wpAny_loadPart' hb; exact ⟨_, rfl, h⟩
def rExtA (K : PySem.W.Frag) : V → List V → Hp → VK → Prop := fun x vs H Q => rExtend x vs H Q ∨ ∃ l b xs zs, x = .ref l ∧ vs = [.ref b] ∧ H l = some (.lst xs) ∧ SqT K H b zs ∧ xs.length + zs.length ≤ sizeLine ∧ Q .non (upd H l (.lst (xs ++ zs)))
theorem mt_extA : MtR X "list.extend" (rExtA X.K) := by
  intro pins s σ H x vs v us Q I rx rv h
  rcases h with h | h
  · exact mt_extend pins s σ H x vs v us Q I rx rv h
  obtain ⟨l, b, xs, zs, rfl, rfl, hH, hB, hz, q⟩ := h
  cases rx
  obtain ⟨u, rfl, ru⟩ := rv.one
  cases ru
  obtain ⟨z, its, n, r, hl, e⟩ := I.lstM hH
  obtain ⟨its2, r2, ⟨⟨cls, dd, data, sl⟩, e2, hc2, n2, hd2⟩, _⟩ := I.tuple hB
  simp only at hc2 hd2
  subst hc2 hd2
  have h1 := r.length
  have h2 := r2.length
  have hsz : its.toArray.size + its2.toArray.size ≤ sizeLine := by rw [List.size_toArray, List.size_toArray]; omega
  have hlong : ¬ (!its.toArray.isEmpty && Builtin.List.listTooLong (its.toArray.size + its2.toArray.size)) = true := by
    rw [notLongL hsz, Bool.and_false]
    exact Bool.false_ne_true
  refine call_meets F.slot_list_extend ⟨_, e, rfl⟩ F.entry_list_extend (F.args_list_extend_2 _ _) (extend_tuple l its.toArray n b its2.toArray n2 dd sl hlong (by rw [List.size_toArray]; omega) (by omega)) ⟨e, e2, ?_⟩
  refine ⟨.non, _, I.lset (its' := its ++ its2) (t' := s.toks) hH e (by simp) (r.append r2) ?_, rfl, q⟩
  rw [List.length_append]
  omega

/-- a list of the store, anew -/
def updO (n : Nat) (f : List D → M (D × List D)) : Option Ob → M D
  | some (.lst ds) => bnd (f ds) fun p S => .ok p.1 (S.set n (.lst p.2))
  | _ => fail
def gAppend : D → MF
  | .obj n, [y] => fun S => updO n (fun ds => need (ds.length < sizeLine) (giv (.non, ds ++ [y]))) S[n]? S
  | _, _ => fail
def popL (ds : List D) : M (D × List D) := opt ds.getLast? fun d => giv (d, ds.dropLast)
def gPop : D → MF
  | .obj n, [] => fun S => updO n popL S[n]? S
  | _, _ => fail
/-- the items of a list that is not frozen -/
def lsts : D → M (List D)
  | .rol ds => giv ds
  | .tup ds => giv ds
  | .obj m => fun S => lstO S[m]? S
  | _ => fail
def gExtend : D → MF
  | .obj n, [y] => bnd (lsts y) fun es S => updO n (fun ds => need (ds.length + es.length ≤ sizeLine) (giv (.non, ds ++ es))) S[n]? S
  | _, _ => fail
theorem updO_ok {ρ : List Addr} {Z : Zt} {H : Hp} {S : Store} {σ : L2.St} {n : Nat} {a : Addr} {f : List D → M (D × List D)} {Q : VK} (s : RS X.K ρ Z H X.mg S) (h1 : ρ[n]? = some a) (q : GE X W Z σ ρ H (updO n f S[n]? S) (qV X Z Q)) :
    ∃ ds xs, H a = some (.lst xs) ∧ RVs X.K ρ Z H ds xs ∧ GE X W Z σ ρ H (f ds S) fun p S' ρ' H' => ∀ xs' v, (∃ u, H' a = some (.lst u)) → RVs X.K ρ' Z H' p.2 xs' → RV X.K ρ' Z H' p.1 v → Q v (upd H' a (.lst xs')) := by
  obtain ⟨ob, u, e1, e2, e3⟩ := s.there h1
  rw [e1] at q
  cases ob with
  | lst ds =>
    obtain ⟨xs, h2, h3⟩ := e2
    refine ⟨ds, xs, h2, h3, (GE.bnd (show GE X W Z σ ρ H (bnd (f ds) (fun p S => .ok p.1 (S.set n (.lst p.2))) S) (qV X Z Q) from q)).imp fun p S' ρ' H' e s' g xs' v ⟨u', hu⟩ r1 r2 => ?_⟩
    have ee := ext_set s' (e.pre n a h1) hu trivial (o' := .lst xs')
    exact g ρ' _ ee (s'.set (ob := .lst p.2) (e.pre n a h1) hu trivial ⟨xs', upd_same, r1.ext ee⟩) v (r2.ext ee)
  | dct _ => exact q.elim
  | ins _ _ => exact q.elim
theorem om_append : OM X W rAppend gAppend := by
  intro Z σ ρ H S x v ds vs Q s rx rs q
  cases x with
  | obj n =>
    match ds, q with
    | [y], q =>
      obtain ⟨w, rfl, r1⟩ := rvs1 rs
      obtain ⟨a, h1, rfl⟩ := RV.obj.mp rx
      obtain ⟨ds, xs, h2, h3, q⟩ := updO_ok s h1 q
      obtain ⟨c, q⟩ := GE.need q
      exact ⟨a, xs, w, rfl, rfl, h2, by rw [h3.length]; exact c, q.giv s _ _ ⟨_, h2⟩ (h3.append (.one r1)) (RV.non.mpr rfl)⟩
  | _ => exact q.elim
theorem dropLast_rv {K : PySem.W.Frag} {ρ : List Addr} {Z : Zt} {H : Hp} {ds : List D} {xs : List V} (h : RVs K ρ Z H ds xs) : RVs K ρ Z H ds.dropLast xs.dropLast := by
  rw [List.dropLast_eq_take, List.dropLast_eq_take, h.length]
  exact h.take _
theorem om_pop : OM X W rPop gPop := by
  intro Z σ ρ H S x v ds vs Q s rx rs q
  cases x with
  | obj n =>
    match ds, q with
    | [], q =>
      obtain ⟨a, h1, rfl⟩ := RV.obj.mp rx
      obtain ⟨ds, xs, h2, h3, q⟩ := updO_ok s h1 q
      obtain ⟨d, e, q⟩ := GE.opt (show GE X W Z σ ρ H (opt ds.getLast? (fun d => giv (d, ds.dropLast)) S) _ from q)
      rw [List.getLast?_eq_getElem?] at e
      obtain ⟨w, e2, r2⟩ := h3.get e
      exact ⟨a, xs, w, rfl, RVs.nil.mp rs, h2, by rw [h3.length]; exact e2, q.giv s _ _ ⟨_, h2⟩ (dropLast_rv h3) r2⟩
  | _ => exact q.elim
theorem om_extend : OM X W (rExtA X.K) gExtend := by
  intro Z σ ρ H S x v ds vs Q s rx rs q
  cases x with
  | obj n =>
    match ds, q with
    | [y], q =>
      obtain ⟨w, rfl, r1⟩ := rvs1 rs
      obtain ⟨a, h1, rfl⟩ := RV.obj.mp rx
      have fin : ∀ (es : List D) (b : Addr) (ys : List V), H b = some (.lst ys) → RVs X.K ρ Z H es ys → GE X W Z σ ρ H (updO n (fun ds => need (ds.length + es.length ≤ sizeLine) (giv (.non, ds ++ es))) S[n]? S) (qV X Z Q) → rExtA X.K (.ref a) [.ref b] H Q := fun es b ys g1 g2 q => .inl <| by
        obtain ⟨ds, xs, h2, h3, q⟩ := updO_ok s h1 q
        obtain ⟨c, q⟩ := GE.need q
        exact ⟨a, b, xs, ys, rfl, rfl, h2, g1, by rw [h3.length, g2.length]; exact c, q.giv s _ _ ⟨_, h2⟩ (h3.append g2) (RV.non.mpr rfl)⟩
      cases y with
      | rol es =>
        obtain ⟨b, ys, rfl, g1, g2⟩ := RV.rol.mp r1
        exact fin es b ys g1.1 g2 q
      | tup es =>
        obtain ⟨b, ys, rfl, g1, g2⟩ := RV.tup.mp r1
        obtain ⟨ds, xs, h2, h3, q⟩ := updO_ok s h1 (show GE X W Z σ ρ H (updO n (fun ds => need (ds.length + es.length ≤ sizeLine) (giv (.non, ds ++ es))) S[n]? S) (qV X Z Q) from q)
        obtain ⟨c, q⟩ := GE.need q
        exact .inr ⟨a, b, xs, ys, rfl, rfl, h2, g1, by rw [h3.length, g2.length]; exact c, q.giv s _ _ ⟨_, h2⟩ (h3.append g2) (RV.non.mpr rfl)⟩
      | obj m =>
        obtain ⟨b, g0, rfl⟩ := RV.obj.mp r1
        obtain ⟨es, ys, e0, g1, g2, q⟩ := GE.lstO s g0 (show GE X W Z σ ρ H (bnd (lstO S[m]?) (fun es S => updO n (fun ds => need (ds.length + es.length ≤ sizeLine) (giv (.non, ds ++ es))) S[n]? S) S) _ from q)
        exact fin es b ys g1 g2 q
      | _ => exact q.elim
  | _ => exact q.elim
theorem se_append (ho : SE X W o ma) (ha : SA X W [e] mas) (hbase : attributeBase o "append" X.env (eval o X.env) = eval o X.env := by rfl)
    (hfew : ((backTo cpos (starEach [e] X.env)).all (fun x => !x.1) && (backToKw cpos (keywordEach [] X.env)).all (fun x => x.1.isSome) && decide ([e].length + ([] : List Keyword).length + (if ([] : List Keyword).isEmpty then 0 else 1) < 30)) = true := by rfl)
    (hline : (apos.endLine == cpos.line) = true := by rfl) (hs : starEach [e] X.env = (false, eval e X.env) :: starEach [] X.env := by rfl) : SE X W (.Call (.Attribute o "append" apos) [e] [] cpos) (mMe "list" gAppend ma mas) :=
  se_me PySem.F.plainAttrs_list PySem.F.slot_list_append PySem.F.type_list_append mt_append om_append ho ha hbase hfew hline hs
theorem se_extend (ho : SE X W o ma) (ha : SA X W [e] mas) (hbase : attributeBase o "extend" X.env (eval o X.env) = eval o X.env := by rfl)
    (hfew : ((backTo cpos (starEach [e] X.env)).all (fun x => !x.1) && (backToKw cpos (keywordEach [] X.env)).all (fun x => x.1.isSome) && decide ([e].length + ([] : List Keyword).length + (if ([] : List Keyword).isEmpty then 0 else 1) < 30)) = true := by rfl)
    (hline : (apos.endLine == cpos.line) = true := by rfl) (hs : starEach [e] X.env = (false, eval e X.env) :: starEach [] X.env := by rfl) : SE X W (.Call (.Attribute o "extend" apos) [e] [] cpos) (mMe "list" gExtend ma mas) :=
  se_me PySem.F.plainAttrs_list PySem.F.slot_list_extend PySem.F.type_list_extend mt_extA om_extend ho ha hbase hfew hline hs
theorem se_pop (ho : SE X W o ma) (hbase : attributeBase o "pop" X.env (eval o X.env) = eval o X.env := by rfl) (hline : (apos.endLine == cpos.line) = true := by rfl) : SE X W (.Call (.Attribute o "pop" apos) [] [] cpos) (mMe0 "list" gPop ma) :=
  se_me0 PySem.F.plainAttrs_list PySem.F.slot_list_pop PySem.F.type_list_pop mt_pop om_pop ho hbase hline
/-! ### a number's text -/
def gStr : MF
  | [.int i] => need (i.natAbs.log2 < 1920) (giv (.str (toString i)))
  | _ => fail
theorem oc_str : OC X W (fun xs H Q => ∃ i, xs = [.int i] ∧ i.natAbs.log2 < 1920 ∧ Q (.str (toString i)) H) gStr := by
  intro Z σ ρ H S ds vs Q s rs q
  match ds, q with
  | [.int i], q =>
    obtain ⟨v, rfl, h1⟩ := rvs1 rs
    rw [RV.int.mp h1]
    obtain ⟨c, q⟩ := GE.need q
    exact ⟨i, rfl, c, q.giv s _ (RV.str.mpr rfl)⟩
theorem se_strof (hg : Gl X "str" := by rfl) (hm : X.mg "str" = none) (ha : SA X W [e] mas) (he : starEach [e] X.env = (false, eval e X.env) :: starEach [] X.env := by rfl) : SE X W (.Call (.Name "str" p) [e] [] pos) (mF gStr mas) := se_ct call_str_int oc_str hg hm (by decide +kernel) ha (he := he)
end
/-! how they are worked out -/
section
variable {α β : Type} {S S' : Store} {env env' : Env} {x : Xc} {d : D} {ds : List D} {n : Nat} {s : Str} {T : String}
def meK (T : String) (g : D → MF) (mas : MA) (env : Env) (x : D) : M D := bnd (tyM T x) fun _ => bnd (mas env) fun ds => g x ds
theorem x_Me {g : D → MF} {ma : ME} {mas : MA} : mMe T g ma mas env S = bndK (meK T g mas env) (ma env S) := x_bnd
theorem x_meK {g : D → MF} {mas : MA} : meK T g mas env d S = bndK (fun _ => bnd (mas env) fun ds => g d ds) (tyM T d S) := x_bnd
theorem x_Me0 {g : D → MF} {ma : ME} : mMe0 T g ma env S = bndK (fun x => bnd (tyM T x) fun _ => g x []) (ma env S) := x_bnd
theorem ty_ss : tyM "str" (.str s) S = .ok () S := (rfl)
theorem ty_lo : tyM "list" (.obj n) S = tyMO "list" S[n]? S := (rfl)
theorem ty_ll : tyMO "list" (some (.lst ds)) S = .ok () S := (rfl)
theorem ty_dd {kvs : List (Key × D)} : tyMO "dict" (some (.dct kvs)) S = .ok () S := (rfl)
theorem ty_lr : tyM "list" (.rol ds) S = .ok () S := (rfl)
theorem ap_o : gAppend (.obj n) [d] S = updO n (fun ds => need (ds.length < sizeLine) (giv (.non, ds ++ [d]))) S[n]? S := (rfl)
theorem up_l {f : List D → M (D × List D)} : updO n f (some (.lst ds)) S = bndK (fun p S => .ok p.1 (S.set n (.lst p.2))) (f ds S) := x_bnd
theorem asT_o : asT (.obj n) S = truO S[n]? S := (rfl)
theorem tru_l : truO (some (.lst ds)) S = .ok (!ds.isEmpty) S := (rfl)
theorem tru_d {kvs : List (Key × D)} : truO (some (.dct kvs)) S = .ok (!kvs.isEmpty) S := (rfl)
theorem two_g0 {A B : Ob} : (S ++ [A, B])[S.length]? = some A := by simp
theorem two_g1 {A B : Ob} : (S ++ [A, B])[S.length + 1]? = some B := by rw [List.getElem?_append_right (by omega)]; simp
theorem two_s0 {A B C : Ob} : (S ++ [A, B]).set S.length C = S ++ [C, B] := by rw [List.set_append_right _ _ (Nat.le_refl _)]; simp
theorem two_s1 {A B C : Ob} : (S ++ [A, B]).set (S.length + 1) C = S ++ [A, C] := by rw [List.set_append_right _ _ (by omega)]; simp
theorem one_g0 {A : Ob} : (S ++ [A])[S.length]? = some A := by simp
theorem one_s0 {A C : Ob} : (S ++ [A]).set S.length C = S ++ [C] := by rw [List.set_append_right _ _ (Nat.le_refl _)]; simp
theorem ext_o : gExtend (.obj n) [d] S = bndK (fun es S => updO n (fun ds => need (ds.length + es.length ≤ sizeLine) (giv (.non, ds ++ es))) S[n]? S) (lsts d S) := x_bnd
theorem lsts_r : lsts (.rol ds) S = .ok ds S := (rfl)
theorem lsts_t : lsts (.tup ds) S = .ok ds S := (rfl)
theorem pop_o : gPop (.obj n) [] S = updO n popL S[n]? S := (rfl)
theorem pop_l : popL ds S = opt ds.getLast? (fun d => giv (d, ds.dropLast)) S := (rfl)
theorem str_i {i : Int} (h : i.natAbs.log2 < 1920) : gStr [.int i] S = .ok (.str (toString i)) S := if_pos h
theorem small1 {k : Nat} (h : k < 1000) : k < sizeLine := Nat.lt_of_lt_of_le (show k < k + 1 from Nat.lt_succ_self k) (small_lit (by omega))
end
end Py

set_option Elab.async false
set_option linter.all false
set_option maxRecDepth 100000
/-! list comprehensions -/
namespace Py
open PySem PySem.Spec PyProof.Rows L2
def wipeE (env : Env) : List Nat → Env
  | [] => env
  | v :: vs => (wipeE env vs).set v none
theorem wipeE_length (env : Env) : ∀ vs : List Nat, (wipeE env vs).length = env.length
  | [] => rfl
  | v :: vs => by unfold wipeE; rw [List.length_set, wipeE_length env vs]
theorem wipeE_some {env : Env} {i : Nat} {x : D} : ∀ {vs : List Nat}, (wipeE env vs)[i]? = some (some x) → env[i]? = some (some x) ∧ i ∉ vs
  | [], h => ⟨h, by simp⟩
  | v :: vs, h => by
    unfold wipeE at h
    by_cases hi : v = i
    · subst hi
      by_cases hv : v < (wipeE env vs).length
      · rw [List.getElem?_set_self hv] at h; cases h
      · rw [List.getElem?_eq_none (by simpa using hv)] at h; cases h
    · rw [List.getElem?_set_ne hi] at h
      obtain ⟨h1, h2⟩ := wipeE_some h
      exact ⟨h1, by simp only [List.mem_cons, not_or]; exact ⟨fun e => hi e.symm, h2⟩⟩
theorem RE.wipe {K : PySem.W.Frag} {ρ : List Addr} {Z : Zt} {H : Hp} {env : Env} {σ : L2.St} (h : RE K ρ Z H env σ) (vs : List Nat) : RE K ρ Z H (wipeE env vs) (L2.wipe σ vs) := by
  refine ⟨by rw [wipeE_length, L2.wipe_length, h.len], fun i d e => ?_⟩
  obtain ⟨h1, h2⟩ := wipeE_some e
  obtain ⟨v, h3, h4⟩ := h.val i d h1
  exact ⟨v, by rw [L2.wipe_out h2]; exact h3, h4⟩
/-- alike but at these places -/
def Agree (σ σ' : L2.St) (is : List Nat) : Prop := σ'.length = σ.length ∧ ∀ i, i ∉ is → σ'[i]? = σ[i]?
theorem Agree.refl {σ : L2.St} {is : List Nat} : Agree σ σ is := ⟨rfl, fun _ _ => rfl⟩
theorem Agree.trans {σ σ1 σ2 : L2.St} {is js : List Nat} (h : Agree σ σ1 is) (k : Agree σ1 σ2 js) : Agree σ σ2 (is ++ js) :=
  ⟨k.1.trans h.1, fun i hi => (k.2 i fun z => hi (List.mem_append_right _ z)).trans (h.2 i fun z => hi (List.mem_append_left _ z))⟩
theorem Agree.mono {σ σ' : L2.St} {is js : List Nat} (h : Agree σ σ' is) (k : ∀ i ∈ is, i ∈ js) : Agree σ σ' js := ⟨h.1, fun i hi => h.2 i fun z => hi (k i z)⟩
theorem wipe_in {σ : L2.St} {i : Nat} : ∀ {vs : List Nat}, i ∈ vs → i < σ.length → (L2.wipe σ vs)[i]? = some none
  | [], h, _ => by simp at h
  | v :: vs, h, hi => by
    unfold L2.wipe
    by_cases e : v = i
    · subst e
      rw [List.getElem?_set_self (by rw [L2.wipe_length]; exact hi)]
    · rw [List.getElem?_set_ne e]
      rcases List.mem_cons.mp h with z | z
      · exact absurd z.symm e
      · exact wipe_in z hi
theorem wipe_agree {σ : L2.St} {vs : List Nat} : Agree σ (L2.wipe σ vs) vs := ⟨L2.wipe_length σ vs, fun i hi => L2.wipe_out hi⟩
theorem agree_wipe {σ σ' : L2.St} {vs : List Nat} (h : Agree σ σ' vs) : L2.wipe σ' vs = L2.wipe σ vs := by
  apply List.ext_getElem?
  intro i
  by_cases hi : i < σ.length
  · by_cases hm : i ∈ vs
    · rw [wipe_in hm hi, wipe_in hm (by rw [h.1]; exact hi)]
    · rw [L2.wipe_out hm, L2.wipe_out hm, h.2 i hm]
  · rw [List.getElem?_eq_none (by rw [L2.wipe_length, h.1]; omega), List.getElem?_eq_none (by rw [L2.wipe_length]; omega)]
theorem agree_wiped {σ σ' : L2.St} {is vs : List Nat} (h : Agree (L2.wipe σ vs) σ' is) (k : ∀ i ∈ is, i ∈ vs) : L2.wipe σ' vs = L2.wipe σ vs := by
  have e := h.mono k
  exact agree_wipe ⟨e.1.trans (L2.wipe_length σ vs), fun i hi => (e.2 i hi).trans (L2.wipe_out hi)⟩

/-! ### targets of a comprehension -/
section
variable (X : Cx)
def rdGv (is : List Nat) (m : MG) : TG := fun v σ H Q => ∃ Z ρ env S d, At X Z ρ H S env σ ∧ RV X.K ρ Z H d v ∧ GE X W0 Z σ ρ H (m d env S) (fun env' S' ρ' H' => ∀ σ', At X Z ρ' H' S' env' σ' → Agree σ σ' is → Q σ' H')
def SGv (e : Expr) (is : List Nat) (m : MG) : Prop := PG X e (rdGv X is m)
def rdGsv (is : List Nat) (m : MGs) : TGs := fun vs σ H Q => ∃ Z ρ env S ds, At X Z ρ H S env σ ∧ RVs X.K ρ Z H ds vs ∧ GE X W0 Z σ ρ H (m ds env S) (fun env' S' ρ' H' => ∀ σ', At X Z ρ' H' S' env' σ' → Agree σ σ' is → Q σ' H')
def SGsv (es : List Expr) (is : List Nat) (m : MGs) : Prop := PGs X es (rdGsv X is m)
end
section
variable {X : Cx} {pos : Pos}
theorem sgv_name (i : Nat) {x : Str} (hN : X.N.Nodup) (hi : X.N[i]? = some x) (hx : Loc X.env.scope x) (hf : X.fn x = true ∨ X.env.scope.names.lookup x = some .local := by first | exact .inl rfl | exact .inr rfl | assumption) : SGv X (.Name x pos) [i] (gNm i) :=
  PG.imp (pg_name hN hi hx hf) fun v σ H Q ⟨Z, ρ, env, S, d, a, r, q⟩ => q.giv a.rs _ ⟨a.rs, a.re.set i r, a.hot⟩ ⟨List.length_set .., fun j hj => List.getElem?_set_ne fun e => hj (by rw [e]; exact List.mem_singleton.mpr rfl)⟩
theorem sgsv_nil : SGsv X [] [] gsNil := PGs.imp pgs_nil fun v σ H Q ⟨Z, ρ, env, S, ds, a, r, q⟩ => by
  cases ds with
  | nil => exact ⟨RVs.nil.mp r, GE.giv (show GE X W0 Z σ ρ H (Py.giv env S) _ from q) a.rs _ a .refl⟩
  | cons d ds => exact q.elim
theorem sgsv_cons {es : List Expr} {e : Expr} {is js : List Nat} {g : MG} {gs : MGs} (h1 : SGv X e is g) (h2 : SGsv X es js gs) (hs : (assignEach (e :: es) X.env).map (·.2) = assign e X.env :: (assignEach es X.env).map (·.2) := by rfl) : SGsv X (e :: es) (is ++ js) (gsCons g gs) :=
  PGs.imp (pgs_cons h1 h2 hs) fun vs σ H Q ⟨Z, ρ, env, S, ds, a, r, q⟩ => by
    cases ds with
    | nil => exact q.elim
    | cons d ds =>
      obtain ⟨v, w, rfl, r1, r2⟩ := RVs.cons.mp r
      have q := GE.bnd (show GE X W0 Z σ ρ H (bnd (g d env) (fun env' => gs ds env') S) _ from q)
      exact ⟨v, w, rfl, Z, ρ, env, S, d, a, r1, q.imp fun env' S' ρ' H' e s q2 σ' a' ag => ⟨Z, ρ', env', S', ds, a', r2.ext e, (GE.w0 q2).imp fun env3 S3 ρ3 H3 e3 s3 k σ3 a3 ag3 => k σ3 a3 (ag.trans ag3)⟩⟩
theorem sgv_tup {es : List Expr} {is : List Nat} {k n : Nat} {gs : MGs} (hc : X.calm = true) (h : SGsv X es is gs) (hn : (assignEach es X.env).length = n := by rfl) (hst : (assignEach es X.env).findIdx? (·.1) = none := by rfl) : SGv X (.Tuple es k pos) is (gTp n gs) :=
  PG.imp (pg_tup hc h hn hst) fun v σ H Q ⟨Z, ρ, env, S, d, a, r, q⟩ => by
    cases d with
    | tup ds =>
      obtain ⟨b, xs, rfl, h2, h3⟩ := RV.tup.mp r
      obtain ⟨c, q⟩ := GE.need (show GE X W0 Z σ ρ H (need (ds.length = n) (gs ds env) S) _ from q)
      exact ⟨b, xs, rfl, h2, h3.length.trans c, Z, ρ, env, S, ds, a, h3, q⟩
    | _ => exact q.elim
end

/-! ### a clause's tests -/
def STs (X : Cx) (ifs : List Expr) (m : MT) : Prop := PTs X ifs (rdT X W0 m)
def mYes (_ : Env) (S : Store) : Res Bool := .ok true S
section
variable {X : Cx} {c : Expr} {t : MT}
theorem sts_nil : STs X [] mYes := by
  have h : PTs X [] tYes := pts_nil
  exact ⟨fun pins s σ H Q I ⟨Z, ρ, env, S, a, q⟩ => h.run pins s σ H Q I (q ρ H Ext.refl a.rs)⟩
theorem sts_one (h : ST X W0 c t) : STs X [c] t := pts_one h
end

/-! ### the walk -/
def rB {α β : Type} (r : Res α) (k : α → Store → Option β) : Option β := match r with
  | .ok a S => k a S
  | _ => none
abbrev MU := D → List D → Store → Option (List D × Store)
open Classical in
noncomputable def compT (ok : Store → Prop) (turn : MU) : List D → List D → Store → Option (List D × Store)
  | [], acc, S => if ok S then some (acc, S) else none
  | d :: ds, acc, S => if ok S then (turn d acc S).bind fun p => compT ok turn ds p.1 p.2 else none
def addC (acc : List D) (y : D) (S : Store) : Option (List D × Store) := if acc.length < sizeLine then some (acc ++ [y], S) else none
def turn1 (vs : List Nat) (g : MG) (t : MT) (e : ME) (env : Env) (d : D) (acc : List D) (S : Store) : Option (List D × Store) :=
  rB (g d (wipeE env vs) S) fun env1 S1 => rB (t env1 S1) fun c S2 => if c then rB (e env1 S2) fun y S3 => addC acc y S3 else some (acc, S2)
noncomputable def turn2 (vs : List Nat) (g : MG) (t : MT) (mi1 : Env → M Src) (vs1 : List Nat) (g1 : MG) (t1 : MT) (e : ME) (env : Env) (d : D) (acc : List D) (S : Store) : Option (List D × Store) :=
  rB (g d (wipeE env vs) S) fun env1 S1 => rB (t env1 S1) fun c S2 => if c then rB (mi1 env1 S2) fun src S3 => compT src.ok (turn1 vs1 g1 t1 e env1) src.ds acc S3 else some (acc, S2)
def lcEnd (o : Bool) : Option (List D × Store) → Res D
  | some p => mkL o p.1 p.2
  | none => .stuck
noncomputable def mLc (o : Bool) (vs : List Nat) (mi : Env → M Src) (g : MG) (t : MT) (e : ME) (env : Env) (S : Store) : Res D :=
  (bnd (mi env) fun src S1 => lcEnd o (compT src.ok (turn1 vs g t e env) src.ds [] S1)) S
noncomputable def mLc2 (o : Bool) (vs : List Nat) (mi : Env → M Src) (g : MG) (t : MT) (mi1 : Env → M Src) (vs1 : List Nat) (g1 : MG) (t1 : MT) (e : ME) (env : Env) (S : Store) : Res D :=
  (bnd (mi env) fun src S1 => lcEnd o (compT src.ok (turn2 vs g t mi1 vs1 g1 t1 e env) src.ds [] S1)) S
theorem rB_some {α β : Type} {r : Res α} {k : α → Store → Option β} {z : β} (h : rB r k = some z) : ∃ a S, r = .ok a S ∧ k a S = some z := by
  cases r with
  | ok a S => exact ⟨a, S, rfl, h⟩
  | exc x S => cases h
  | stuck => cases h
section
variable {K : PySem.W.Frag} {mg : Str → Option Value} {ρ ρ0 ρ1 ρ' ρb : List Addr} {Z Z0 : Zt} {H H0 H1 H' Hb : Hp} {S S' : Store} {D0 : Addr} {acc : List D}
theorem Cpy.refl : Cpy K ρ Z H ρ Z H := ⟨fun _ _ h => h, fun _ _ h => h, fun _ _ h => h, fun _ _ h => h, fun _ h => h, fun _ _ h => h⟩
theorem Cpy.trans {ρ2 : List Addr} {Z' Z2 : Zt} {H2 : Hp} (a : Cpy K ρ Z H ρ' Z' H') (b : Cpy K ρ' Z' H' ρ2 Z2 H2) : Cpy K ρ Z H ρ2 Z2 H2 :=
  ⟨fun n x h => b.pre n x (a.pre n x h), fun x y h => b.sqt x y (a.sqt x y h), fun x y h => b.sqr x y (a.sqr x y h), fun x y h => b.sqf x y (a.sqf x y h), fun x h => b.hot x (a.hot x h), fun x y h => b.xds x y (a.xds x y h)⟩
/-- D is a comprehension's own list: acc so far -/
structure CSt (K : PySem.W.Frag) (mg : Str → Option Value) (Z : Zt) (ρb : List Addr) (Hb : Hp) (D0 : Addr) (ρ : List Addr) (S : Store) (H : Hp) (acc : List D) : Prop where
  ext : Ext Z ρb Hb ρ H
  rs : RS K ρ (Z.push D0) H mg S
  row : ∃ xs, H D0 = some (.lst xs) ∧ RVs K ρ (Z.push D0) H acc xs
theorem cpy_less : Cpy K ρ (Z.push D0) H ρ Z H := ⟨fun _ _ h => h, fun _ _ h => h, fun _ _ h => ⟨h.1, h.2.1, fun z => h.2.2 (Zt.mem_of z)⟩, fun _ _ h => h, fun _ h => h, fun _ _ h => h⟩
theorem RS.less (r : RS K ρ (Z.push D0) H mg S) : RS K ρ Z H mg S := ⟨r.len, r.inj, fun n a o h1 h2 => (r.obj n a o h1 h2).cpy cpy_less fun _ e => e, fun a h => r.hid a (Zt.mem_of h)⟩
theorem cpy_more (h : H D0 = none) : Cpy K ρ Z H ρ (Z.push D0) (upd H D0 (.lst [])) :=
  ⟨fun _ _ h => h, fun a xs q => by
      rcases q with (q | ⟨o, q⟩) | q
      · exact .inl (.inl (by rw [upd_ne (ne_of_none q h)]; exact q))
      · exact .inl (.inr ⟨o, by rw [upd_ne (ne_of_none q h)]; exact q⟩)
      · exact .inr q, fun a xs q => ⟨by rw [upd_ne (ne_of_none q.1 h)]; exact q.1, q.2.1, fun z => by
        rcases Zt.mem_push.mp z with z | z
        · exact ne_of_none q.1 h z
        · exact q.2.2 z⟩, fun a xs q => by
      rcases q with ⟨o, q⟩ | q
      · exact .inl ⟨o, by rw [upd_ne (ne_of_none q h)]; exact q⟩
      · exact .inr q, fun _ h => h, fun a gs q => by rw [upd_ne (ne_of_none q h)]; exact q⟩
/-- D made -/
theorem CSt.start (r : RS K ρ Z H mg S) (h : H D0 = none) : CSt K mg Z ρ H D0 ρ S (upd H D0 (.lst [])) [] :=
  ⟨ext_upd r h, ⟨r.len, r.inj, fun n a o h1 h2 => (r.obj n a o h1 h2).cpy (cpy_more h) fun u e => by rw [upd_ne (ne_of_none e h)]; exact e, fun a q => by
      rcases Zt.mem_push.mp q with rfl | q
      · exact ⟨(r.notin h).1, by rw [upd_same]; exact fun z => nomatch z⟩
      · exact (r.fresh (o := .lst []) h).hid a q⟩, [], upd_same, RVs.nil.mpr rfl⟩
/-- something was done that leaves D alone -/
theorem CSt.go (c : CSt K mg Z ρb Hb D0 ρ S H acc) (hz : ∀ a ∈ Z, Hb a ≠ none) (hD : Hb D0 = none) (e : Ext (Z.push D0) ρ H ρ' H') (s : RS K ρ' (Z.push D0) H' mg S') : CSt K mg Z ρb Hb D0 ρ' S' H' acc := by
  obtain ⟨xs, h1, h2⟩ := c.row
  refine ⟨⟨fun n a h => e.pre n a (c.ext.pre n a h), fun a xs h => e.tup a xs (c.ext.tup a xs h), fun a o u h => e.frz a o u (c.ext.frz a o u h), fun a xs h n z => ?_, fun a h => ?_, fun a gs h => e.xds a gs (c.ext.xds a gs h)⟩, s, xs, ?_, h2.ext e⟩
  · obtain ⟨u, v⟩ := c.ext.lst a xs h n z
    exact e.lst a xs u v fun m => by
      rcases Zt.mem_push.mp m with m | m
      · rw [m, hD] at h; cases h
      · exact z m
  · exact (e.hid a (Zt.mem_of h)).trans (c.ext.hid a h)
  · rw [e.hid D0 (Zt.mem_push.mpr (.inl rfl))]
    exact h1
theorem cpy_upd {xs ys : List V} (h : H D0 = some (.lst xs)) : Cpy K ρ (Z.push D0) H ρ (Z.push D0) (upd H D0 (.lst ys)) := by
  have ne : ∀ {a u}, H a = some u → u ≠ .lst xs → a ≠ D0 := fun {a u} e q z => by
    rw [z, h] at e
    cases e
    exact q rfl
  refine ⟨fun _ _ h => h, fun a xs q => ?_, fun a xs q => ?_, fun a xs q => ?_, fun _ h => h, fun a gs q => by rw [upd_ne (ne q (by simp))]; exact q⟩
  · rcases q with (q | ⟨o, q⟩) | q
    · exact .inl (.inl (by rw [upd_ne (ne q (by simp))]; exact q))
    · exact .inl (.inr ⟨o, by rw [upd_ne (ne q (by simp))]; exact q⟩)
    · exact .inr q
  · have n : a ≠ D0 := fun z => q.2.2 (by rw [z]; exact Zt.mem_push.mpr (.inl rfl))
    exact ⟨by rw [upd_ne n]; exact q.1, q.2⟩
  · rcases q with ⟨o, q⟩ | q
    · exact .inl ⟨o, by rw [upd_ne (ne q (by simp))]; exact q⟩
    · exact .inr q
/-- one more -/
theorem CSt.add {xs : List V} {y : D} {v : V} (c : CSt K mg Z ρb Hb D0 ρ S H acc) (hz : ∀ a ∈ Z, Hb a ≠ none) (hD : Hb D0 = none) (h : H D0 = some (.lst xs)) (rs : RVs K ρ (Z.push D0) H acc xs) (r : RV K ρ (Z.push D0) H y v) :
    CSt K mg Z ρb Hb D0 ρ S (upd H D0 (.lst (xs ++ [v]))) (acc ++ [y]) := by
  have e := cpy_upd (K := K) (ρ := ρ) (Z := Z) (ys := xs ++ [v]) h
  have nD : D0 ∉ ρ := (c.rs.hid D0 (Zt.mem_push.mpr (.inl rfl))).1
  refine ⟨⟨c.ext.pre, fun a ys q => ?_, fun a o u q => ?_, fun a ys q n z => ?_, fun a q => ?_, fun a gs q => ?_⟩, ⟨c.rs.len, c.rs.inj, fun n a o h1 h2 => (c.rs.obj n a o h1 h2).cpy e fun u q => ?_, fun a q => ⟨(c.rs.hid a q).1, ?_⟩⟩, _, upd_same, (rs.append (.one r)).cpy e⟩
  · rw [upd_ne (ne_of_none q hD)]; exact c.ext.tup a ys q
  · rw [upd_ne (ne_of_none q hD)]; exact c.ext.frz a o u q
  · rw [upd_ne (ne_of_none q hD)]; exact c.ext.lst a ys q n z
  · rw [upd_ne fun k => hz a q (by rw [k]; exact hD)]; exact c.ext.hid a q
  · rw [upd_ne (ne_of_none q hD)]; exact c.ext.xds a gs q
  · rw [upd_ne fun k => nD (by rw [← k]; exact List.mem_of_getElem? h1)]
    exact q
  · by_cases k : a = D0
    · rw [k, upd_same]; exact fun z => nomatch z
    · rw [upd_ne k]; exact (c.rs.hid a q).2
/-- D becomes a thing of the store -/
theorem RS.adopt {xs : List V} (c : RS K ρ (Z.push D0) H mg S) (h : H D0 = some (.lst xs)) (r : RVs K ρ (Z.push D0) H acc xs) (hD : D0 ∉ Z) : RS K (ρ ++ [D0]) Z H mg (S ++ [.lst acc]) := by
  have nD : D0 ∉ ρ := (c.hid D0 (Zt.mem_push.mpr (.inl rfl))).1
  have cp : Cpy K ρ (Z.push D0) H (ρ ++ [D0]) Z H := ⟨fun n a q => by rw [List.getElem?_append_left (List.getElem?_eq_some_iff.mp q).1]; exact q, fun _ _ q => q, fun a ys q => ⟨q.1, fun z => by
    rcases List.mem_append.mp z with z | z
    · exact q.2.1 z
    · exact q.2.2 (by rw [List.mem_singleton.mp z]; exact Zt.mem_push.mpr (.inl rfl)), fun z => q.2.2 (Zt.mem_of z)⟩, fun _ _ q => q, fun _ h => h, fun _ _ h => h⟩
  refine ⟨by simp [c.len], fun n m a h1 h2 => ?_, fun n a o h1 h2 => ?_, fun a q => ⟨fun z => ?_, (c.hid a (Zt.mem_of q)).2⟩⟩
  · rcases at_snoc h1 with ⟨e1, l1⟩ | ⟨e1, z1⟩ <;> rcases at_snoc h2 with ⟨e2, l2⟩ | ⟨e2, z2⟩
    · exact c.inj n m a e1 e2
    · exact absurd (by rw [← z2]; exact List.mem_of_getElem? e1) nD
    · exact absurd (by rw [← z1]; exact List.mem_of_getElem? e2) nD
    · omega
  · rcases at_snoc h1 with ⟨e1, l1⟩ | ⟨e1, z1⟩
    · rw [List.getElem?_append_left (by rw [← c.len]; exact l1)] at h2
      exact (c.obj n a o e1 h2).cpy cp fun _ e => e
    · have hz : n - S.length = 0 := by rw [e1, c.len]; omega
      rw [List.getElem?_append_right (by rw [e1, c.len]; exact Nat.le_refl _), hz] at h2
      have e2 : o = .lst acc := by simpa using h2.symm
      rw [e2, z1]
      exact ⟨xs, h, r.cpy cp⟩
  · rcases List.mem_append.mp z with z | z
    · exact (c.hid a (Zt.mem_of q)).1 z
    · exact hD (by rw [← List.mem_singleton.mp z]; exact q)
end
section
variable {X : Cx} {W : WX}
/-- the loop, by what a turn does -/
theorem comp_W {J : It} {src : Src} {turn : MU} {ρ0 ρb ρ1 : List Addr} {Z Z0 : Zt} {H0 Hb H1 : Hp} {D0 : Addr} {S1 SF : Store} {acc0 ysF : List D} {Done : Hp → Prop} {Body : V → Hp → (Hp → Prop) → Prop} (wk : Wk X Z0 ρ0 H0 src J)
    (hz : ∀ a ∈ Z, Hb a ≠ none) (hD : Hb D0 = none) (c1 : CSt X.K X.mg Z ρb Hb D0 ρ1 S1 H1 acc0) (p1 : Cpy X.K ρ0 Z0 H0 ρ1 (Z.push D0) H1) (run : compT src.ok turn src.ds acc0 S1 = some (ysF, SF))
    (hturn : ∀ d ρ S H acc acc' S' x Nx, CSt X.K X.mg Z ρb Hb D0 ρ S H acc → Cpy X.K ρ0 Z0 H0 ρ (Z.push D0) H → RV X.K ρ (Z.push D0) H d x → turn d acc S = some (acc', S') →
      (∀ ρ' H', CSt X.K X.mg Z ρb Hb D0 ρ' S' H' acc' → Cpy X.K ρ0 Z0 H0 ρ' (Z.push D0) H' → Nx H') → Body x H Nx)
    (hd : ∀ ρ' H', CSt X.K X.mg Z ρb Hb D0 ρ' SF H' ysF → Cpy X.K ρ0 Z0 H0 ρ' (Z.push D0) H' → Done H') :
    ∃ W : Nat → Nat → Hp → Prop, (∃ m, W 0 m H1) ∧ ∀ i m H, W i m H → (J.stop i H ∧ Done H) ∨ (J.go i H ∧ ∃ Nx : Hp → Prop, (∀ H', Nx H' → ∃ m', m' < m ∧ W (i + 1) m' H') ∧ ∀ x H', J.yld i H x H' → Body x H' Nx) := by
  refine ⟨fun i m H => m = src.ds.length - i ∧ i ≤ src.ds.length ∧ ∃ ρ S acc, CSt X.K X.mg Z ρb Hb D0 ρ S H acc ∧ Cpy X.K ρ0 Z0 H0 ρ (Z.push D0) H ∧ compT src.ok turn (src.ds.drop i) acc S = some (ysF, SF),
    ⟨_, rfl, Nat.zero_le _, ρ1, S1, acc0, c1, p1, run⟩, ?_⟩
  rintro i m H ⟨rfl, hil, ρ, S, acc, c, p, q⟩
  by_cases hi : i < src.ds.length
  · rw [List.drop_eq_getElem_cons hi] at q
    unfold compT at q
    split at q
    · rename_i ok
      obtain ⟨⟨acc', S'⟩, q1, q2⟩ := Option.bind_eq_some_iff.mp q
      obtain ⟨g1, g2⟩ := wk.go i src.ds[i] (Z.push D0) ρ H S p c.rs ok (List.getElem?_eq_getElem hi)
      refine .inr ⟨g1, fun H' => ∃ ρ', CSt X.K X.mg Z ρb Hb D0 ρ' S' H' acc' ∧ Cpy X.K ρ0 Z0 H0 ρ' (Z.push D0) H', fun H' ⟨ρ', c', p'⟩ => ⟨_, by omega, rfl, hi, ρ', S', acc', c', p', q2⟩, fun x H2 y => ?_⟩
      obtain ⟨e2, s2, r2⟩ := g2 x H2 y
      exact hturn src.ds[i] ρ S H2 acc acc' S' x _ (c.go hz hD e2 s2) (p.trans e2.cpy) r2 q1 fun ρ' H' c' p' => ⟨ρ', c', p'⟩
    · cases q
  · have z : i = src.ds.length := by omega
    subst z
    rw [List.drop_length] at q
    unfold compT at q
    split at q
    · rename_i ok
      cases q
      exact .inl ⟨wk.stop _ (Z.push D0) ρ H SF p c.rs ok (Nat.le_refl _), hd ρ H c p⟩
    · cases q
theorem GE.okv {α : Type} {Z : Zt} {σ : L2.St} {ρ : List Addr} {H : Hp} {r : Res α} {a : α} {S' : Store} {Q : α → Store → List Addr → Hp → Prop} (e : r = .ok a S')
    (k : ∀ ρ' H', Ext Z ρ H ρ' H' → RS X.K ρ' Z H' X.mg S' → Q a S' ρ' H') : GE X W Z σ ρ H r Q := by
  rw [e]
  exact k
/-- what a turn of one clause does -/
theorem turn1_ok {g : MG} {t : MT} {e : ME} {is vs : List Nat} {env : Env} {ρb ρ0 ρ : List Addr} {Z Z0 : Zt} {Hb H0 H : Hp} {D0 : Addr} {S S' : Store} {d : D} {acc acc' : List D} {σ : L2.St} {x : V} {Nx : Hp → Prop} (hsub : ∀ i ∈ is, i ∈ vs)
    (ho : HotOk X Z.hot) (hz : ∀ a ∈ Z, Hb a ≠ none) (hD : Hb D0 = none) (re : RE X.K ρ0 Z0 H0 env σ) (c : CSt X.K X.mg Z ρb Hb D0 ρ S H acc) (p : Cpy X.K ρ0 Z0 H0 ρ (Z.push D0) H) (r : RV X.K ρ (Z.push D0) H d x) (q : turn1 vs g t e env d acc S = some (acc', S'))
    (k : ∀ ρ' H', CSt X.K X.mg Z ρb Hb D0 ρ' S' H' acc' → Cpy X.K ρ0 Z0 H0 ρ' (Z.push D0) H' → Nx H') :
    rdGv X is g x (L2.wipe σ vs) H fun σ2 H2 => L2.wipe σ2 vs = L2.wipe σ vs ∧ rdT X W0 t σ2 H2 fun b H3 => if b = true then rd X W0 e σ2 H3 fun y H4 => ∃ acc, H4 D0 = some (.lst acc) ∧ acc.length < sizeLine ∧ Nx (upd H4 D0 (.lst (acc ++ [y]))) else Nx H3 := by
  obtain ⟨env1, S1, e1, q1⟩ := rB_some q
  obtain ⟨b, S2, e2, q2⟩ := rB_some q1
  refine ⟨Z.push D0, ρ, wipeE env vs, S, d, ⟨c.rs, (re.cpy p).wipe vs, ho⟩, r, GE.okv e1 fun ρ1 H1 x1 s1 σ1 a1 ag => ⟨agree_wiped ag hsub, Z.push D0, ρ1, env1, S1, a1, GE.okv e2 fun ρ2 H2 x2 s2 => ?_⟩⟩
  have x12 := x1.trans x2
  have c2 := c.go hz hD x12 s2
  have p2 := p.trans x12.cpy
  show if b = true then _ else _
  cases b with
  | false =>
    rw [if_neg (by simp)] at q2
    cases q2
    exact iteF (k ρ2 H2 c2 p2)
  | true =>
    rw [if_pos rfl] at q2
    obtain ⟨y, S3, e3, q3⟩ := rB_some q2
    unfold addC at q3
    split at q3
    · rename_i hl
      cases q3
      refine iteT ⟨Z.push D0, ρ2, env1, S2, ⟨s2, a1.re.ext x2, a1.hot⟩, GE.okv e3 fun ρ3 H3 x3 s3 v rv => ?_⟩
      have c3 := c2.go hz hD x3 s3
      obtain ⟨xs, h1, h2⟩ := c3.row
      exact ⟨xs, h1, by rw [h2.length]; exact hl, k ρ3 _ (c3.add hz hD h1 h2 rv) ((p2.trans x3.cpy).trans (cpy_upd h1))⟩
    · cases q3

/-- what a turn of two clauses does -/
theorem turn2_ok {g g1 : MG} {t t1 : MT} {mi1 : Env → M Src} {e : ME} {is is1 vs vs1 : List Nat} {env : Env} {ρb ρ0 ρ : List Addr} {Z Z0 : Zt} {Hb H0 H : Hp} {D0 : Addr} {S S' : Store} {d : D} {acc acc' : List D} {σ : L2.St} {x : V} {Nx : Hp → Prop} (hsub : ∀ i ∈ is, i ∈ vs) (hsub1 : ∀ i ∈ is1, i ∈ vs1)
    (ho : HotOk X Z.hot) (hz : ∀ a ∈ Z, Hb a ≠ none) (hD : Hb D0 = none) (re : RE X.K ρ0 Z0 H0 env σ) (c : CSt X.K X.mg Z ρb Hb D0 ρ S H acc) (p : Cpy X.K ρ0 Z0 H0 ρ (Z.push D0) H) (r : RV X.K ρ (Z.push D0) H d x) (q : turn2 vs g t mi1 vs1 g1 t1 e env d acc S = some (acc', S'))
    (k : ∀ ρ' H', CSt X.K X.mg Z ρb Hb D0 ρ' S' H' acc' → Cpy X.K ρ0 Z0 H0 ρ' (Z.push D0) H' → Nx H') :
    rdGv X is g x (L2.wipe σ vs) H fun σ2 H2 => L2.wipe σ2 vs = L2.wipe σ vs ∧ rdT X W0 t σ2 H2 fun b H3 => if b = true then rdI X W0 mi1 σ2 H3 (fun J1 H4 => ∃ W1 : Nat → Nat → Hp → Prop, (∃ m, W1 0 m H4) ∧ ∀ j k H, W1 j k H →
      (J1.stop j H ∧ Nx H) ∨ (J1.go j H ∧ ∃ Nx1 : Hp → Prop, (∀ H', Nx1 H' → ∃ k', k' < k ∧ W1 (j + 1) k' H') ∧ ∀ x H', J1.yld j H x H' → rdGv X is1 g1 x (L2.wipe σ2 vs1) H' fun σ3 H5 => L2.wipe σ3 vs1 = L2.wipe σ2 vs1 ∧ rdT X W0 t1 σ3 H5 fun b H6 =>
        if b = true then rd X W0 e σ3 H6 fun y H7 => ∃ acc, H7 D0 = some (.lst acc) ∧ acc.length < sizeLine ∧ Nx1 (upd H7 D0 (.lst (acc ++ [y]))) else Nx1 H6)) else Nx H3 := by
  obtain ⟨env1, S1, e1, q1⟩ := rB_some q
  obtain ⟨b, S2, e2, q2⟩ := rB_some q1
  refine ⟨Z.push D0, ρ, wipeE env vs, S, d, ⟨c.rs, (re.cpy p).wipe vs, ho⟩, r, GE.okv e1 fun ρ1 H1 x1 s1 σ1 a1 ag => ⟨agree_wiped ag hsub, Z.push D0, ρ1, env1, S1, a1, GE.okv e2 fun ρ2 H2 x2 s2 => ?_⟩⟩
  have x12 := x1.trans x2
  have c2 := c.go hz hD x12 s2
  have p2 := p.trans x12.cpy
  show if b = true then _ else _
  cases b with
  | false =>
    rw [if_neg (by simp)] at q2
    cases q2
    exact iteF (k ρ2 H2 c2 p2)
  | true =>
    rw [if_pos rfl] at q2
    obtain ⟨src, S3, e3, q3⟩ := rB_some q2
    refine iteT ⟨Z.push D0, ρ2, env1, S2, ⟨s2, a1.re.ext x2, a1.hot⟩, GE.okv e3 fun ρ3 H3 x3 s3 J1 wk => ?_⟩
    have c3 := c2.go hz hD x3 s3
    have p3 := p2.trans x3.cpy
    have re1 := a1.re.ext (x2.trans x3)
    -- what the inner loop keeps: from H3 on, and from the outer base on
    refine comp_W (Z0 := Z.push D0) (ρ0 := ρ3) (H0 := H3) wk hz hD c3 Cpy.refl q3 (Body := fun x H' Nx1 => rdGv X is1 g1 x (L2.wipe σ1 vs1) H' fun σ3 H5 => L2.wipe σ3 vs1 = L2.wipe σ1 vs1 ∧ rdT X W0 t1 σ3 H5 fun b H6 =>
        if b = true then rd X W0 e σ3 H6 fun y H7 => ∃ acc, H7 D0 = some (.lst acc) ∧ acc.length < sizeLine ∧ Nx1 (upd H7 D0 (.lst (acc ++ [y]))) else Nx1 H6) (Done := Nx) ?_ ?_
    · intro d ρ S H acc acc' S' x Nx c4 p4 r4 q4 k4
      exact turn1_ok hsub1 (show HotOk X Z.hot from a1.hot) hz hD re1 c4 p4 r4 q4 k4
    · intro ρ' H' c4 p4
      exact k ρ' H' c4 (p3.trans p4)
end
section
variable {X : Cx} {W : WX} {elt tg iter tg1 iter1 : Expr} {ifs ifs1 : List Expr} {scope : Scope} {pos : Pos} {mi mi1 : Env → M Src} {g g1 : MG} {t t1 : MT} {e : ME} {is is1 : List Nat} {s : Shared} {H : Hp} {ce : PySem.Env} {fp : List Addr}
theorem blk_g (hc : X.calm = true) (h : SGv (X.blk s H scope ce fp) tg is g) : PG (X.blk s H scope ce fp) tg (rdGv X is g) :=
  PG.imp h fun v σ H Q ⟨Z, ρ, env, S, d, a, r, q⟩ => ⟨Z, ρ, env, S, d, ⟨a.rs, a.re, .none hc (a.hot.cold hc)⟩, r, (show GE X W0 Z σ ρ H (g d env S) _ from q).imp fun env' S' ρ' H' e s k σ' a' ag => k σ' ⟨a'.rs, a'.re, .none hc (a'.hot.cold hc)⟩ ag⟩
theorem blk_t (hc : X.calm = true) (h : STs (X.blk s H scope ce fp) ifs t) : PTs (X.blk s H scope ce fp) ifs (rdT X W0 t) :=
  ⟨fun pins s σ H Q I ⟨Z, ρ, env, S, a, q⟩ => h.run pins s σ H Q I ⟨Z, ρ, env, S, ⟨a.rs, a.re, .none hc (a.hot.cold hc)⟩, q⟩⟩
theorem blk_e (hc : X.calm = true) (h : SE (X.blk s H scope ce fp) W0 elt e) : PE (X.blk s H scope ce fp) elt (rd X W0 e) :=
  PE.imp h fun σ H Q ⟨Z, ρ, env, S, a, q⟩ => ⟨Z, ρ, env, S, ⟨a.rs, a.re, .none hc (a.hot.cold hc)⟩, q⟩
theorem blk_i (hc : X.calm = true) (h : SI (X.blk s H scope ce fp) W0 tg iter mi) : PI (X.blk s H scope ce fp) tg iter (rdI X W0 mi) :=
  PI.imp h fun σ H Q ⟨Z, ρ, env, S, a, q⟩ => ⟨Z, ρ, env, S, ⟨a.rs, a.re, .none hc (a.hot.cold hc)⟩, (show GE X W0 Z σ ρ H (mi env S) _ from q).imp fun src S' ρ' H' e s k J wk => k J ⟨wk.go, wk.stop⟩⟩
/-- the end: the list is what it was asked to be -/
theorem lc_end {o : Bool} {ρ1 : List Addr} {Z : Zt} {H1 : Hp} {σ : L2.St} {S1 : Store} {r : Option (List D × Store)} {Q : VK} (s1 : RS X.K ρ1 Z H1 X.mg S1) (q : GE X W Z σ ρ1 H1 (lcEnd o r) (qV X Z Q)) :
    ∃ ys SF, r = some (ys, SF) ∧ ∀ D0 ρ' H', H1 D0 = none → CSt X.K X.mg Z ρ1 H1 D0 ρ' SF H' ys → Q (.ref D0) H' := by
  cases r with
  | none => exact q.elim
  | some p =>
    obtain ⟨ys, SF⟩ := p
    refine ⟨ys, SF, rfl, fun D0 ρ' H' hD c => ?_⟩
    have hn : D0 ∉ Z := (s1.notin hD).2
    have hr : D0 ∉ ρ' := (c.rs.hid D0 (Zt.mem_push.mpr (.inl rfl))).1
    obtain ⟨xs, h1, h2⟩ := c.row
    cases o with
    | false => exact q ρ' H' c.ext c.rs.less _ (RV.rol.mpr ⟨D0, xs, rfl, ⟨h1, hr, hn⟩, h2.cpy cpy_less⟩)
    | true =>
      refine q (ρ' ++ [D0]) H' ⟨fun n a h => ?_, c.ext.tup, c.ext.frz, fun a ys h n z => ?_, c.ext.hid, c.ext.xds⟩ (RS.adopt c.rs h1 h2 hn) _ (RV.obj.mpr ⟨D0, ?_, rfl⟩)
      · have := c.ext.pre n a h
        rw [List.getElem?_append_left (List.getElem?_eq_some_iff.mp this).1]
        exact this
      · obtain ⟨u, v⟩ := c.ext.lst a ys h n z
        exact ⟨u, fun m => by
          rcases List.mem_append.mp m with m | m
          · exact v m
          · exact ne_of_none h hD (List.mem_singleton.mp m)⟩
      · rw [List.getElem?_append_right (by rw [c.rs.len]; exact Nat.le_refl _), c.rs.len, Nat.sub_self]
        rfl
theorem lc_ask (o : Bool) {own : List (Str × Nat)} (hsub : ∀ i ∈ is, i ∈ own.map (·.2)) {σ : L2.St} {H : Hp} {Q : VK} (q : rd X W (mLc o (own.map (·.2)) mi g t e) σ H Q) : tLc (rdI X W mi) (rdGv X is g) (rdT X W0 t) (rd X W0 e) (own.map (·.2)) σ H Q := by
  obtain ⟨Z, ρ, env, S, a, q⟩ := q
  refine ⟨Z, ρ, env, S, a, (GE.bnd q).imp fun src S1 ρ1 H1 x1 s1 q1 J wk D0 hD => ?_⟩
  obtain ⟨ys, SF, run, fin⟩ := lc_end s1 q1
  have hz : ∀ a ∈ Z, H1 a ≠ none := fun a h => (s1.hid a h).2
  exact comp_W (Z0 := Z) (ρ0 := ρ1) (H0 := H1) wk hz hD (CSt.start s1 hD) (cpy_more hD) run (fun d ρ S H acc acc' S' x Nx c p r q k => turn1_ok hsub a.hot hz hD (a.re.ext x1) c p r q k) (fun ρ' H' c p => fin D0 ρ' H' hD c)
theorem se_lc (o : Bool) (own : List (Str × Nat)) (hc : X.calm = true) (hN : X.N.Nodup) (hi : SI X W tg iter mi) (ok : BlkOk X.N X.env.scope scope own)
    (hg : ∀ (s : Shared) (H : Hp) (C : Addr) (cl : List (Str × Addr)) (fp : List Addr), SGv (X.blk s H scope (compEnvC scope cl C X.env) fp) tg is g) (ht : ∀ (s : Shared) (H : Hp) (C : Addr) (cl : List (Str × Addr)) (fp : List Addr), STs (X.blk s H scope (compEnvC scope cl C X.env) fp) ifs t)
    (he : ∀ (s : Shared) (H : Hp) (C : Addr) (cl : List (Str × Addr)) (fp : List Addr), SE (X.blk s H scope (compEnvC scope cl C X.env) fp) W0 elt e) (hsub : ∀ i ∈ is, i ∈ own.map (·.2) := by decide) (hs : ∀ x, foldedSetIterable iter X.env x = pure x := by intro _; rfl) :
    SE X W (.ListComp elt [⟨tg, iter, ifs, 0⟩] scope pos) (mLc o (own.map (·.2)) mi g t e) :=
  PE.imp (pe_lc hc hN hi ok (fun s H C cl fp => blk_g hc (hg s H C cl fp)) (fun s H C cl fp => blk_t hc (ht s H C cl fp)) (fun s H C cl fp => blk_e hc (he s H C cl fp)) hs) fun σ H Q q => lc_ask o hsub q
theorem ss_setLc (o : Bool) (own : List (Str × Nat)) (i : Nat) {y : Str} {py spos : Pos} (hc : X.calm = true) (hN : X.N.Nodup) (hy : X.N[i]? = some y) (hyl : X.env.scope.names.lookup y = some .local)
    (hsw : swapsWith (.ListComp elt [⟨tg, iter, ifs, 0⟩] scope pos) (some (.Name y py)) spos.line X.env = pure true) (hi : SI X W tg iter mi) (ok : BlkOk X.N X.env.scope scope own)
    (hg : ∀ (s : Shared) (H : Hp) (C : Addr) (cl : List (Str × Addr)) (fp : List Addr), SGv (X.blk s H scope (compEnvC scope cl C X.env) fp) tg is g) (ht : ∀ (s : Shared) (H : Hp) (C : Addr) (cl : List (Str × Addr)) (fp : List Addr), STs (X.blk s H scope (compEnvC scope cl C X.env) fp) ifs t)
    (he : ∀ (s : Shared) (H : Hp) (C : Addr) (cl : List (Str × Addr)) (fp : List Addr), SE (X.blk s H scope (compEnvC scope cl C X.env) fp) W0 elt e) (hsub : ∀ i ∈ is, i ∈ own.map (·.2) := by decide) (hs : ∀ x, foldedSetIterable iter X.env x = pure x := by intro _; rfl) :
    SS X W (.Assign [.Name y py] (.ListComp elt [⟨tg, iter, ifs, 0⟩] scope pos) spos) (sSet i (mLc o (own.map (·.2)) mi g t e)) :=
  PS.imp (ps_setLc (i := i) hc hN hy hyl hsw hi ok (fun s H C cl fp => blk_g hc (hg s H C cl fp)) (fun s H C cl fp => blk_t hc (ht s H C cl fp)) (fun s H C cl fp => blk_e hc (he s H C cl fp)) hs) fun D σ H ⟨Z, ρ, env, S, a, q⟩ =>
    lc_ask o hsub ⟨Z, ρ, env, S, a, (GS.bnd a q).imp fun d S' ρ' H' e s q v r => q ρ' H' _ Ext.refl ⟨s, (a.re.ext e).set i r, a.hot⟩⟩
theorem lc2_ask (o : Bool) {vs vs1 : List Nat} (hsub : ∀ i ∈ is, i ∈ vs) (hsub1 : ∀ i ∈ is1, i ∈ vs1) {σ : L2.St} {H : Hp} {Q : VK} (q : rd X W (mLc2 o vs mi g t mi1 vs1 g1 t1 e) σ H Q) :
    tLc2 (rdI X W mi) (rdGv X is g) (rdT X W0 t) (rdI X W0 mi1) (rdGv X is1 g1) (rdT X W0 t1) (rd X W0 e) vs vs1 σ H Q := by
  obtain ⟨Z, ρ, env, S, a, q⟩ := q
  refine ⟨Z, ρ, env, S, a, (GE.bnd q).imp fun src S1 ρ1 H1 x1 s1 q1 J wk D0 hD => ?_⟩
  obtain ⟨ys, SF, run, fin⟩ := lc_end s1 q1
  have hz : ∀ a ∈ Z, H1 a ≠ none := fun a h => (s1.hid a h).2
  exact comp_W (Z0 := Z) (ρ0 := ρ1) (H0 := H1) wk hz hD (CSt.start s1 hD) (cpy_more hD) run (fun d ρ S H acc acc' S' x Nx c p r q k => turn2_ok hsub hsub1 a.hot hz hD (a.re.ext x1) c p r q k) (fun ρ' H' c p => fin D0 ρ' H' hD c)
theorem se_lc2 (o : Bool) (own : List (Str × Nat)) (vs1 : List Nat) (hc : X.calm = true) (hN : X.N.Nodup) (hi : SI X W tg iter mi) (ok : BlkOk X.N X.env.scope scope own)
    (hg : ∀ (s : Shared) (H : Hp) (C : Addr) (cl : List (Str × Addr)) (fp : List Addr), SGv (X.blk s H scope (compEnvC scope cl C X.env) fp) tg is g) (ht : ∀ (s : Shared) (H : Hp) (C : Addr) (cl : List (Str × Addr)) (fp : List Addr), STs (X.blk s H scope (compEnvC scope cl C X.env) fp) ifs t)
    (hi1 : ∀ (s : Shared) (H : Hp) (C : Addr) (cl : List (Str × Addr)) (fp : List Addr), SI (X.blk s H scope (compEnvC scope cl C X.env) fp) W0 tg1 iter1 mi1)
    (hg1 : ∀ (s : Shared) (H : Hp) (C : Addr) (cl : List (Str × Addr)) (fp : List Addr), SGv (X.blk s H scope (compEnvC scope cl C X.env) fp) tg1 is1 g1) (ht1 : ∀ (s : Shared) (H : Hp) (C : Addr) (cl : List (Str × Addr)) (fp : List Addr), STs (X.blk s H scope (compEnvC scope cl C X.env) fp) ifs1 t1)
    (he : ∀ (s : Shared) (H : Hp) (C : Addr) (cl : List (Str × Addr)) (fp : List Addr), SE (X.blk s H scope (compEnvC scope cl C X.env) fp) W0 elt e) (hv : ∀ i ∈ vs1, i ∈ own.map (·.2) := by decide) (hsub : ∀ i ∈ is, i ∈ own.map (·.2) := by decide) (hsub1 : ∀ i ∈ is1, i ∈ vs1 := by decide)
    (hs : ∀ x, foldedSetIterable iter X.env x = pure x := by intro _; rfl) (hs1 : ∀ env x, foldedSetIterable iter1 env x = pure x := by intro _ _; rfl) :
    SE X W (.ListComp elt [⟨tg, iter, ifs, 0⟩, ⟨tg1, iter1, ifs1, 0⟩] scope pos) (mLc2 o (own.map (·.2)) mi g t mi1 vs1 g1 t1 e) :=
  PE.imp (pe_lc2 hc hN hi ok hv (fun s H C cl fp => blk_g hc (hg s H C cl fp)) (fun s H C cl fp => blk_t hc (ht s H C cl fp)) (fun s H C cl fp => blk_i hc (hi1 s H C cl fp)) (fun s H C cl fp => blk_g hc (hg1 s H C cl fp)) (fun s H C cl fp => blk_t hc (ht1 s H C cl fp)) (fun s H C cl fp => blk_e hc (he s H C cl fp)) hs hs1)
    fun σ H Q q => lc2_ask o hsub hsub1 q
theorem ss_setLc2 (o : Bool) (own : List (Str × Nat)) (vs1 : List Nat) (i : Nat) {y : Str} {py spos : Pos} (hc : X.calm = true) (hN : X.N.Nodup) (hy : X.N[i]? = some y) (hyl : X.env.scope.names.lookup y = some .local)
    (hsw : swapsWith (.ListComp elt [⟨tg, iter, ifs, 0⟩, ⟨tg1, iter1, ifs1, 0⟩] scope pos) (some (.Name y py)) spos.line X.env = pure true) (hi : SI X W tg iter mi) (ok : BlkOk X.N X.env.scope scope own)
    (hg : ∀ (s : Shared) (H : Hp) (C : Addr) (cl : List (Str × Addr)) (fp : List Addr), SGv (X.blk s H scope (compEnvC scope cl C X.env) fp) tg is g) (ht : ∀ (s : Shared) (H : Hp) (C : Addr) (cl : List (Str × Addr)) (fp : List Addr), STs (X.blk s H scope (compEnvC scope cl C X.env) fp) ifs t)
    (hi1 : ∀ (s : Shared) (H : Hp) (C : Addr) (cl : List (Str × Addr)) (fp : List Addr), SI (X.blk s H scope (compEnvC scope cl C X.env) fp) W0 tg1 iter1 mi1)
    (hg1 : ∀ (s : Shared) (H : Hp) (C : Addr) (cl : List (Str × Addr)) (fp : List Addr), SGv (X.blk s H scope (compEnvC scope cl C X.env) fp) tg1 is1 g1) (ht1 : ∀ (s : Shared) (H : Hp) (C : Addr) (cl : List (Str × Addr)) (fp : List Addr), STs (X.blk s H scope (compEnvC scope cl C X.env) fp) ifs1 t1)
    (he : ∀ (s : Shared) (H : Hp) (C : Addr) (cl : List (Str × Addr)) (fp : List Addr), SE (X.blk s H scope (compEnvC scope cl C X.env) fp) W0 elt e) (hv : ∀ i ∈ vs1, i ∈ own.map (·.2) := by decide) (hsub : ∀ i ∈ is, i ∈ own.map (·.2) := by decide) (hsub1 : ∀ i ∈ is1, i ∈ vs1 := by decide)
    (hs : ∀ x, foldedSetIterable iter X.env x = pure x := by intro _; rfl) (hs1 : ∀ env x, foldedSetIterable iter1 env x = pure x := by intro _ _; rfl) :
    SS X W (.Assign [.Name y py] (.ListComp elt [⟨tg, iter, ifs, 0⟩, ⟨tg1, iter1, ifs1, 0⟩] scope pos) spos) (sSet i (mLc2 o (own.map (·.2)) mi g t mi1 vs1 g1 t1 e)) :=
  PS.imp (ps_setLc2 (i := i) hc hN hy hyl hsw hi ok hv (fun s H C cl fp => blk_g hc (hg s H C cl fp)) (fun s H C cl fp => blk_t hc (ht s H C cl fp)) (fun s H C cl fp => blk_i hc (hi1 s H C cl fp)) (fun s H C cl fp => blk_g hc (hg1 s H C cl fp)) (fun s H C cl fp => blk_t hc (ht1 s H C cl fp)) (fun s H C cl fp => blk_e hc (he s H C cl fp)) hs hs1)
    fun D σ H ⟨Z, ρ, env, S, a, q⟩ => lc2_ask o hsub hsub1 ⟨Z, ρ, env, S, a, (GS.bnd a q).imp fun d S' ρ' H' e s q v r => q ρ' H' _ Ext.refl ⟨s, (a.re.ext e).set i r, a.hot⟩⟩
end
end Py

set_option Elab.async false
set_option linter.all false
set_option maxRecDepth 100000
/-! constants of the module, in, chains, turned tuples, built-ins over lists -/
namespace Py
open PySem PySem.Spec PyProof.Rows L2
/-! ### constants -/
def dOf : Value → Option D
  | .none => some .non
  | .bool b => some (.bl b)
  | .int i _ => some (.int i)
  | .str x _ => some (.str x)
  | _ => none
theorem dOf_rv {u : Value} {d : D} (h : dOf u = some d) : ∃ v, RelV v u ∧ ∀ K ρ Z H, RV K ρ Z H d v := by
  cases u <;> first | (cases h; done) | skip
  all_goals (injection h with h; subst h)
  · exact ⟨.non, rfl, fun _ _ _ _ => RV.non.mpr rfl⟩
  · exact ⟨.bl _, rfl, fun _ _ _ _ => RV.bl.mpr rfl⟩
  · exact ⟨.int _, ⟨_, rfl⟩, fun _ _ _ _ => RV.int.mpr rfl⟩
  · exact ⟨.str _, ⟨_, rfl⟩, fun _ _ _ _ => RV.str.mpr rfl⟩
def dRow : List Value → Option (List D)
  | [] => some []
  | u :: us => (dOf u).bind fun d => (dRow us).bind fun ds => some (d :: ds)
theorem dRow_rv : ∀ {us : List Value} {ds : List D}, dRow us = some ds → ∃ vs, Vals vs us ∧ ∀ K ρ Z H, RVs K ρ Z H ds vs
  | [], ds, h => by
    injection h with h
    subst h
    exact ⟨[], .nil, fun _ _ _ _ => RVs.nil.mpr rfl⟩
  | u :: us, ds, h => by
    obtain ⟨d, h1, h⟩ := Option.bind_eq_some_iff.mp h
    obtain ⟨es, h2, h⟩ := Option.bind_eq_some_iff.mp h
    injection h with h
    subst h
    obtain ⟨v, r, k⟩ := dOf_rv h1
    obtain ⟨vs, rs, ks⟩ := dRow_rv h2
    exact ⟨v :: vs, .cons r rs, fun K ρ Z H => RVs.cons.mpr ⟨v, vs, rfl, k K ρ Z H, ks K ρ Z H⟩⟩
/-- the global x is d for ever -/
def GC (K : PySem.W.Frag) (mg : Str → Option Value) (x : Str) (d : D) : Prop := ∃ v u, mg x = some u ∧ RelV v u ∧ ∀ ρ Z H, RV K ρ Z H d v
theorem gc_flat {K : PySem.W.Frag} {mg : Str → Option Value} {x : Str} {u : Value} {d : D} (hm : mg x = some u) (h : dOf u = some d) : GC K mg x d :=
  let ⟨v, r, k⟩ := dOf_rv h
  ⟨v, u, hm, r, k K⟩
theorem gc_tup {K : PySem.W.Frag} {mg : Str → Option Value} {x : Str} {a : Addr} {od : Option Addr} {its : Array Value} {n : Nat} {sl : Array (Option Value)} {ds : List D} (hm : mg x = some (.ref a)) (hl : K.lookup a = some ⟨.type "tuple", od, .seq its n, sl⟩)
    (h : dRow its.toList = some ds) (hz : its.toList.length ≤ 1000) : GC K mg x (.tup ds) :=
  let ⟨vs, rs, k⟩ := dRow_rv h
  ⟨.ref a, .ref a, hm, rfl, fun ρ Z H => RV.tup.mpr ⟨a, vs, rfl, .inr ⟨_, its, n, hl, rfl, rfl, Nat.le_of_lt (small1000 (by simpa using hz)), rs⟩, k K ρ Z H⟩⟩
section
variable {X : Cx} {W : WX} {pos cpos apos p : Pos} {a b c e : Expr} {es : List Expr} {ma mb mc : ME} {mas : MA} {x : Str}
theorem se_glob {d : D} (h : GC X.K X.mg x d) (hg : Gl X x) (hd : (x == ("__debug__" : Str)) = false := by decide) : SE X W (.Name x pos) (mC d) := by
  obtain ⟨v, u, hm, r, k⟩ := h
  exact se_c (pe_glob hg hm r hd) k

/-! ### in -/
def flatD : D → Bool
  | .non => true
  | .bl _ => true
  | .int _ => true
  | .str _ => true
  | _ => false
def eqD : D → D → Bool
  | .non, .non => true
  | .bl a, .bl b => a == b
  | .bl a, .int b => (if a then 1 else 0) == b
  | .int a, .bl b => a == (if b then 1 else 0)
  | .int a, .int b => a == b
  | .str a, .str b => a == b
  | _, _ => false
def inD (x : D) (ds : List D) : Bool := ds.any fun y => eqD y x
theorem flatD_ok {K : PySem.W.Frag} {ρ : List Addr} {Z : Zt} {H : Hp} {d : D} {v : V} (r : RV K ρ Z H d v) (h : flatD d = true) : flatV v = true := by
  cases d with
  | non => rw [RV.non.mp r]; rfl
  | bl _ => rw [RV.bl.mp r]; rfl
  | int _ => rw [RV.int.mp r]; rfl
  | str _ => rw [RV.str.mp r]; rfl
  | _ => cases h
theorem eqD_ok {K : PySem.W.Frag} {ρ : List Addr} {Z : Zt} {H : Hp} {d e : D} {v u : V} (r : RV K ρ Z H d v) (q : RV K ρ Z H e u) (h : flatD d = true) (k : flatD e = true) : eqV v u = eqD d e := by
  cases d <;> first | (cases h; done) | (cases e <;> first | (cases k; done) | (
    first | rw [RV.non.mp r] | rw [RV.bl.mp r] | rw [RV.int.mp r] | rw [RV.str.mp r]
    first | rw [RV.non.mp q] | rw [RV.bl.mp q] | rw [RV.int.mp q] | rw [RV.str.mp q]
    rfl))
theorem inD_ok {K : PySem.W.Frag} {ρ : List Addr} {Z : Zt} {H : Hp} {x : D} {v : V} (r : RV K ρ Z H x v) (h : flatD x = true) : ∀ {ds : List D} {vs : List V}, RVs K ρ Z H ds vs → ds.all flatD = true → vs.all flatV = true ∧ inV v vs = inD x ds
  | [], _, rs, _ => by rw [RVs.nil.mp rs]; exact ⟨rfl, rfl⟩
  | d :: ds, _, rs, k => by
    obtain ⟨w, ws, rfl, r1, r2⟩ := RVs.cons.mp rs
    rw [List.all_cons, Bool.and_eq_true] at k
    obtain ⟨h1, h2⟩ := inD_ok r h r2 k.2
    refine ⟨by rw [List.all_cons, flatD_ok r1 k.1, h1]; rfl, ?_⟩
    unfold inV inD at *
    rw [List.any_cons, List.any_cons, h2, eqD_ok r1 r k.1 h]
/-- the one text within the other -/
def strInL (l : List Nat) (i j : Str) : Bool := match l with
  | [c] => decide (c ∈ j.cps.toList)
  | _ => !(Builtin.Str.occurrences j i 0 j.length 1).isEmpty
def strIn (i j : Str) : Bool := strInL i.cps.toList i j
def dIn (neg : Bool) : D → D → M D
  | .str i, .str j => giv (.bl (if neg then !strIn i j else strIn i j))
  | x, y => bnd (getQ y) fun ds => need (flatD x = true ∧ ds.all flatD = true) (giv (.bl (if neg then !inD x ds else inD x ds)))
theorem str_one {i : Str} {c : Nat} (h : i.cps.toList = [c]) : i = ⟨#[c]⟩ := by
  cases i with
  | mk cs =>
    congr 1
    apply Array.ext'
    rw [h]
abbrev rInAll (K : PySem.W.Frag) (neg : Bool) : R2 := fun x y H Q => (rIn K neg x y H Q) ∨ (∃ (c : Nat) (z : Str), x = .str ⟨#[c]⟩ ∧ y = .str z ∧ Q (.bl (if neg then !decide (c ∈ z.cps.toList) else decide (c ∈ z.cps.toList))) H) ∨
  (∃ i j, x = .str i ∧ y = .str j ∧ Q (.bl (if neg then !!(Builtin.Str.occurrences j i 0 j.length 1).isEmpty else !(Builtin.Str.occurrences j i 0 j.length 1).isEmpty)) H)
theorem op_inAll : OpR X (compareOp .In) (rInAll X.K false) := OpR.or op_in_seq (OpR.or op_in_sign op_in_str)
theorem op_notInAll : OpR X (compareOp .NotIn) (rInAll X.K true) := OpR.or op_notIn_seq (OpR.or op_notIn_sign op_notIn_str)
theorem o2_in (neg : Bool) : O2 X W (rInAll X.K neg) (dIn neg) := by
  intro Z σ ρ H S x y v u Q s rv ru q
  have seq : (∀ i j, ¬ (x = .str i ∧ y = .str j)) → rInAll X.K neg v u H Q := fun hn => by
    have q' : GE X W Z σ ρ H (bnd (getQ y) (fun ds => need (flatD x = true ∧ ds.all flatD = true) (giv (.bl (if neg then !inD x ds else inD x ds)))) S) (qV X Z Q) := by
      cases x <;> first | exact q | (cases y <;> first | exact q | exact absurd ⟨rfl, rfl⟩ (hn _ _))
    obtain ⟨ds, a, xs, rfl, h2, h3, q2⟩ := q'.getQ s ru
    obtain ⟨⟨c1, c2⟩, q3⟩ := q2.need
    obtain ⟨k1, k2⟩ := inD_ok rv c1 h3 c2
    refine .inl ⟨a, xs, rfl, h2, flatD_ok rv c1, k1, ?_⟩
    rw [k2]
    exact q3.giv s _ (RV.bl.mpr rfl)
  cases x with
  | str i =>
    cases y with
    | str j =>
      rw [RV.str.mp rv, RV.str.mp ru]
      have q := GE.giv (show GE X W Z σ ρ H (giv (.bl (if neg then !strIn i j else strIn i j)) S) (qV X Z Q) from q) s _ (RV.bl.mpr rfl)
      unfold strIn at q
      match hl : i.cps.toList, q with
      | [c], q =>
        rw [str_one hl]
        exact .inr (.inl ⟨c, j, rfl, rfl, q⟩)
      | [], q => exact .inr (.inr ⟨i, j, rfl, rfl, q⟩)
      | _ :: _ :: _, q => exact .inr (.inr ⟨i, j, rfl, rfl, q⟩)
    | _ => exact seq fun _ _ h => by cases h.2
  | _ => exact seq fun _ _ h => by cases h.1
theorem se_in (ha : SE X W a ma) (hb : SE X W b mb) (hm : behindInMarks .In b = false := by rfl) : SE X W (.Compare a [.In] [b] pos) (m2 (dIn false) ma mb) := se_cmp op_inAll (o2_in false) ha hb hm
theorem st_in (ha : SE X W a ma) (hb : SE X W b mb) (hm : behindInMarks .In b = false := by rfl) : ST X W (.Compare a [.In] [b] pos) (mB (m2 (dIn false) ma mb)) := st_cmp op_inAll (o2_in false) ha hb hm
theorem se_notin (ha : SE X W a ma) (hb : SE X W b mb) (hm : behindInMarks .NotIn b = false := by rfl) : SE X W (.Compare a [.NotIn] [b] pos) (m2 (dIn true) ma mb) := se_cmp op_notInAll (o2_in true) ha hb hm
theorem st_notin (ha : SE X W a ma) (hb : SE X W b mb) (hm : behindInMarks .NotIn b = false := by rfl) : ST X W (.Compare a [.NotIn] [b] pos) (mB (m2 (dIn true) ma mb)) := st_cmp op_notInAll (o2_in true) ha hb hm

/-! ### a < b < c -/
def mChain (f g : D → D → M D) (ma mb mc : ME) (env : Env) (S : Store) : Res D := (bnd (ma env) fun x => bnd (mb env) fun y => bnd (f x y) fun z => bnd (asB z) fun k => if k then bnd (mc env) fun w => g y w else giv (.bl false)) S
theorem chain_ok {r r' : R2} {f g : D → D → M D} (hf : O2 X W r f) (hg : O2 X W r' g) {σ : L2.St} {H : Hp} {Q : VK} (q : rd X W (mChain f g ma mb mc) σ H Q) : tChain r r' (rd X W ma) (rd X W mb) (rd X W mc) σ H Q := by
  obtain ⟨Z, ρ, env, S, a, q⟩ := q
  refine a.first q fun ρ1 H1 S1 x v a1 e1 rv q1 => ?_
  refine a1.first q1 fun ρ2 H2 S2 y u a2 e2 ru q2 => ?_
  refine hf Z σ ρ2 H2 S2 x y v u _ a2.rs (rv.ext e2) ru (q2.bnd.imp fun z S3 ρ3 H3 e3 s3 q3 zv rz => ?_)
  have a3 := a2.ext e3 s3
  cases z with
  | bl k =>
    refine ⟨k, RV.bl.mp rz, ?_⟩
    have q4 : GE X W Z σ ρ3 H3 ((if k then bnd (mc env) fun w => g y w else giv (.bl false)) S3) (qV X Z Q) := q3
    cases k with
    | true =>
      rw [if_pos rfl] at q4
      exact iteT (a3.first q4 fun ρ4 H4 S4 w wv a4 e4 rw q5 => hg Z σ ρ4 H4 S4 y w u wv Q a4.rs (ru.ext (e3.trans e4)) rw q5)
    | false =>
      rw [if_neg Bool.false_ne_true] at q4
      exact iteF (q4.giv s3 _ (RV.bl.mpr rfl))
  | _ => exact q3.elim
theorem se_chain {op op' : CmpOp} {r r' : R2} {f g : D → D → M D} (ho : OpR X (compareOp op) r) (hf : O2 X W r f) (ho' : OpR X (compareOp op') r') (hg : O2 X W r' g) (ha : SE X W a ma) (hb : SE X W b mb) (hc : SE X W c mc) (hm : lastMarks [op, op'] [b, c] = false := by with_unfolding_all rfl) :
    SE X W (.Compare a [op, op'] [b, c] pos) (mChain f g ma mb mc) := PE.imp (pe_chain ho ho' ha hb hc hm) fun _ _ _ q => chain_ok hf hg q
theorem st_chain {op op' : CmpOp} {r r' : R2} {f g : D → D → M D} (ho : OpR X (compareOp op) r) (hf : O2 X W r f) (ho' : OpR X (compareOp op') r') (hg : O2 X W r' g) (ha : SE X W a ma) (hb : SE X W b mb) (hc : SE X W c mc) (hm : lastMarks [op, op'] [b, c] = false := by with_unfolding_all rfl) :
    ST X W (.Compare a [op, op'] [b, c] pos) (mB (mChain f g ma mb mc)) := PT.imp (pt_chain ho ho' ha hb hc hm) fun _ _ _ q => chain_ok hf hg (mB_ok q)

/-! ### turned -/
def dRev (o : Bool) : D → M D
  | .tup ds => giv (.tup ds.reverse)
  | x => bnd (getL x) fun ds => mkL o ds.reverse
def tRev (K : PySem.W.Frag) (te : TE) : TE := fun σ H Q => te σ H fun x H1 => ∃ a xs, x = .ref a ∧ ((SqL K H1 a xs ∧ ∀ p, H1 p = none → Q (.ref p) (upd H1 p (.lst xs.reverse))) ∨ (SqT K H1 a xs ∧ ∀ p, H1 p = none → Q (.ref p) (upd H1 p (.tup xs.reverse))))
section
variable {prog : Program} {w : World} {A : Around} {E : Value → Shared → Prop} {s : Shared}
theorem adjust_rev (n : Nat) : Builtin.Slice.sliceAdjust none none (-1) (n : Int) = ((n : Int) - 1, -1) := by
  unfold Builtin.Slice.sliceAdjust
  simp
theorem places_rev (n : Nat) : Builtin.Slice.slicePlaces ((n : Int) - 1) (-1) (-1) = n := by
  unfold Builtin.Slice.slicePlaces
  by_cases h : n = 0
  · subst h
    simp
  · have h1 : ¬ ((-1 : Int) > 0) := by omega
    have h2 : (n : Int) - 1 > -1 := by omega
    rw [if_neg h1, if_pos h2]
    simp
theorem sliceApplied_rev {sl : Addr} {vl vu vs : Value} {n : Nat} {Q : Int × Int × Nat → Shared → Prop} (hs : s.heap.IsSliceOf sl vl vu vs) (pl : IsPart vl none) (pu : IsPart vu none) (ps : IsPart vs (some (-1)))
    (h : Q ((n : Int) - 1, -1, n) s) : wpAny (model prog w) A (Builtin.Slice.sliceApplied (.ref sl) (pure (n : Int))) Q E s := by
  obtain ⟨os, hos, hcs, hds⟩ := id hs
  unfold Builtin.Slice.sliceApplied Builtin.Slice.sliceFields
  refine wpAny_bind (wpAny_bind (wpAny_field hos hds (x := vl) rfl (wpAny_bind (wpAny_field hos hds (x := vu) rfl (wpAny_bind (wpAny_field hos hds (x := vs) rfl (wpAny_pure ?_)))))))
  refine wpAny_bind (HT.slicePart_ ps ?_)
  show wpAny _ _ (if ((-1 : Int) == 0) = true then _ else _) _ _ s
  rw [if_neg (by decide)]
  refine wpAny_bind (HT.slicePart_ pl (wpAny_bind (HT.slicePart_ pu (wpAny_bind (wpAny_pure ?_)))))
  show wpAny _ _ (match Builtin.Slice.sliceAdjust none none (-1) (n : Int) with | (lo, hi) => pure (lo, (-1 : Int), Builtin.Slice.slicePlaces lo hi (-1))) _ _ s
  rw [adjust_rev n]
  show wpAny _ _ (pure ((n : Int) - 1, (-1 : Int), Builtin.Slice.slicePlaces ((n : Int) - 1) (-1) (-1))) _ _ s
  rw [places_rev]
  exact wpAny_pure h
theorem fm_some {α β : Type} (f : α → Option β) (g : α → β) : ∀ l : List α, (∀ k ∈ l, f k = some (g k)) → l.filterMap f = l.map g
  | [], _ => rfl
  | k :: l, h => by
    rw [List.filterMap_cons, h k (List.mem_cons_self ..), List.map_cons, fm_some f g l fun j hj => h j (List.mem_cons_of_mem _ hj)]
theorem rev_pick (xs : List Value) : ((List.range xs.length).filterMap fun (k : Nat) => xs.toArray[((xs.length : Int) - 1 + (k : Int) * (-1)).toNat]?) = xs.reverse := by
  rw [fm_some _ (fun k => (xs[xs.length - 1 - k]?).getD .none) _ fun k hk => by
    have hk : k < xs.length := List.mem_range.mp hk
    have z : ((xs.length : Int) - 1 + (k : Int) * (-1)).toNat = xs.length - 1 - k := by omega
    simp only [z, List.getElem?_toArray]
    rw [List.getElem?_eq_getElem (by omega)]
    rfl]
  apply List.ext_getElem?
  intro i
  by_cases hi : i < xs.length
  · rw [List.getElem?_map, List.getElem?_range hi, List.getElem?_reverse hi]
    rw [List.getElem?_eq_getElem (by omega)]
    simp only [Option.map_some]
    rw [List.getElem?_eq_getElem (by omega)]
    rfl
  · rw [List.getElem?_eq_none (by simp; omega), List.getElem?_eq_none (by simp; omega)]
theorem getItem_tuple_rev {t sl : Addr} {xs : List Value} {vl vu vs : Value} {Q : Value → Shared → Prop} (ht : IsTup s.heap t xs.toArray) (hs : s.heap.IsSliceOf sl vl vu vs) (pl : IsPart vl none) (pu : IsPart vu none) (ps : IsPart vs (some (-1)))
    (h : Q (.ref s.heap.objs.size) { s with heap := s.heap.push { cls := .type "tuple", data := .seq xs.reverse.toArray } }) (hsz : xs.length ≤ sizeLine) : wpAny (model prog w) A (getItem (.ref t) (.ref sl)) Q E s := by
  have hsz' : sizeOk (.seq xs.reverse.toArray) := by
    show xs.reverse.toArray.size ≤ sizeLine
    rw [List.size_toArray, List.length_reverse]
    exact hsz
  obtain ⟨os, hos, hcs, hds⟩ := id hs
  have hTs : s.TypeIs (.ref sl) "slice" := ⟨os, hos, hcs⟩
  unfold getItem
  try with_reducible refine wpAny_holding ?_
  first | refine wpAny_bind (wpAny_pure ?_) | skip
  refine wpAny_bind (wpAny_sequenceKey ht.typeIs (by decide) ?_)
  refine wpAny_bind (wpAny_callSpecial?_slot (name := Str.ofString "__getitem__") ht.typeIs PyProof.Rows.slot_tuple_getitem
    (wpAny_call_entry PyProof.Rows.slot_tuple_getitem ht.typeIs entry_tuple_getitem ?_ (args_tuple_getitem _ _)))
  show wpAny _ _ (Builtin.Tuple.tupleItemsOf (.ref t) >>= _) _ _ s
  refine wpAny_bind (tupleItemsOf_ ht ?_)
  refine wpAny_bind (wpAny_typeOf hTs ?_)
  rw [if_pos (by decide)]
  refine wpAny_bind (sliceApplied_rev (n := xs.toArray.size) hs pl pu ps ?_)
  have hno : ¬ (((xs.toArray.size : Int) - 1 == 0 && (-1 : Int) == 1 && xs.toArray.size == xs.toArray.size) = true) := by simp
  show wpAny _ _ (if ((xs.toArray.size : Int) - 1 == 0 && (-1 : Int) == 1 && xs.toArray.size == xs.toArray.size) = true then _ else _) _ _ s
  rw [if_neg hno]
  have e : ((List.range xs.toArray.size).filterMap fun (k : Nat) => xs.toArray[((xs.toArray.size : Int) - 1 + (k : Int) * (-1)).toNat]?).toArray = xs.reverse.toArray := by
    rw [List.size_toArray, rev_pick]
  rw [e]
  first
    | exact wpAny_bind (m := Builtin.Tuple.tupleExact _) (wpAny_newObj_type (wpAny_pure ⟨_, rfl, wpAny_pure h⟩) hsz')
    | exact wpAny_bind (m := Builtin.Tuple.tupleExact _) (wpAny_newObj_type (wpAny_bind (wpAny_pure (wpAny_pure ⟨_, rfl, wpAny_pure h⟩))) hsz')
    | exact wpAny_bind (wpAny_bind (m := Builtin.Tuple.tupleExact _) (wpAny_newObj_type (wpAny_pure (wpAny_pure ⟨_, rfl, wpAny_pure h⟩)) hsz'))
    | exact wpAny_bind (wpAny_bind (m := Builtin.Tuple.tupleExact _) (wpAny_newObj_type (wpAny_pure ⟨_, rfl, wpAny_pure h⟩) hsz'))
end
theorem pe_rev {e : Expr} {te : TE} {k : Nat} {p1 p2 p3 pos : Pos} (he : PE X e te) : PE X (.Subscript e (.Slice none none (some (.UnaryOp .USub (.Constant (.int 1) k p1) p2)) p3) pos) (tRev X.K te) := by
  refine ⟨fun pins s σ H Q I h => ?_⟩
  refine Subscript_ (thn (he.run pins s σ H _ I h) fun v s1 ⟨x, H1, I1, r1, q1⟩ => ?_)
  obtain ⟨a, xs, ex, q1⟩ := q1
  subst ex
  cases r1
  have hst : PO X (some (.UnaryOp .USub (.Constant (.int 1) k p1) p2)) (tPart (tUn (rU fun i => .int (-i)) (tC (.int 1)))) := po_some (pe_un un_neg pe_int)
  refine wpAny_Slice (thn (po_none.run pins s1 σ H1 (fun o H2 => o = none ∧ H2 = H1) I1 ⟨rfl, rfl⟩) fun vl s2 ⟨l, H2, I2, pl, el, e2⟩ => ?_)
  subst el e2
  refine thn (po_none.run pins s2 σ H2 (fun o H3 => o = none ∧ H3 = H2) I2 ⟨rfl, rfl⟩) fun vu s3 ⟨u, H3, I3, pu, eu, e3⟩ => ?_
  subst eu e3
  refine thn (hst.run pins s3 σ H3 (fun o H4 => o = some (-1) ∧ H4 = H3) I3 ⟨1, rfl, -1, rfl, rfl, rfl⟩) fun vs s4 ⟨o, H4, I4, ps, eo, e4⟩ => ?_
  subst eo e4
  have I5 : Inv X pins σ H4 { s4 with heap := s4.heap.push { cls := .type "slice", data := .fields #[vl, vu, vs] } } := I4.kept (t' := s4.toks) fun b ob q => Heap.get?_push_of_some _ q
  show wpAny (model X.prog X.w) X.A (subscriptTail e (.Slice none none (some (.UnaryOp .USub (.Constant (.int 1) k p1) p2)) p3) (.ref a) (.ref s4.heap.objs.size)) (EP X pins σ Q) X.xe { s4 with heap := s4.heap.push { cls := .type "slice", data := .fields #[vl, vu, vs] } }
  rcases q1 with ⟨hx, q⟩ | ⟨hx, q⟩
  · obtain ⟨its, r, ht, hz⟩ := I5.list hx
    have hlen := r.length
    refine tail_any (ops := [.ref a, .ref s4.heap.objs.size]) ht.isList.typeIs (PySem.slot_list_getitem.lookup) ?_ (by with_unfolding_all rfl)
    refine wpAny_getItem_list_slice ht.isList (Heap.IsSliceOf.new _ vl vu vs) pl pu ps (by decide) ?_ (by rw [List.size_toArray]; omega)
    rw [PySem.W.krv_pick]
    refine ⟨.ref _, _, I5.laid (t' := s4.toks) (o := .lst xs.reverse) (fun b ob q => Heap.get?_push_of_some _ q) (Nat.le_refl _) ?_, rfl, q _ (I5.hok.fresh (Nat.le_refl _))⟩
    exact ⟨by rw [List.length_reverse]; exact hz, _, 0, r.reverse, Heap.get?_push_size _ rfl⟩
  · obtain ⟨its, r, ht, hz⟩ := I5.tuple hx
    have hlen := r.length
    refine tail_any (ops := [.ref a, .ref s4.heap.objs.size]) ht.typeIs PyProof.Rows.slot_tuple_getitem.lookup ?_ (by with_unfolding_all rfl)
    refine getItem_tuple_rev ht (Heap.IsSliceOf.new _ vl vu vs) pl pu ps ?_ (by omega)
    refine ⟨.ref _, _, I5.laid (t' := s4.toks) (o := .tup xs.reverse) (fun b ob q => Heap.get?_push_of_some _ q) (Nat.le_refl _) ?_, rfl, q _ (I5.hok.fresh (Nat.le_refl _))⟩
    exact ⟨by rw [List.length_reverse]; exact hz, _, r.reverse, IsTup.new _ _⟩
theorem RVs.reverse {K : PySem.W.Frag} {ρ : List Addr} {Z : Zt} {H : Hp} : ∀ {ds : List D} {vs : List V}, RVs K ρ Z H ds vs → RVs K ρ Z H ds.reverse vs.reverse
  | [], _, h => by rw [RVs.nil.mp h]; exact RVs.nil.mpr rfl
  | d :: ds, _, h => by
    obtain ⟨x, r, rfl, h2, h3⟩ := RVs.cons.mp h
    rw [List.reverse_cons, List.reverse_cons]
    exact (RVs.reverse h3).append (.one h2)
theorem se_rev (o : Bool) {k : Nat} {p1 p2 p3 : Pos} (ha : SE X W a ma) : SE X W (.Subscript a (.Slice none none (some (.UnaryOp .USub (.Constant (.int 1) k p1) p2)) p3) pos) (m1 (dRev o) ma) := by
  refine PE.imp (pe_rev ha) fun σ H Q ⟨Z, ρ, env, S, a, q⟩ => ?_
  refine a.first q fun ρ1 H1 S1 x v a1 e1 rv q1 => ?_
  have lst : (∀ ds, x ≠ .tup ds) → ∃ a xs, v = .ref a ∧ ((SqL X.K H1 a xs ∧ ∀ p, H1 p = none → Q (.ref p) (upd H1 p (.lst xs.reverse))) ∨ (SqT X.K H1 a xs ∧ ∀ p, H1 p = none → Q (.ref p) (upd H1 p (.tup xs.reverse)))) := fun hn => by
    have q' : GE X W Z σ ρ1 H1 (bnd (getL x) (fun ds => mkL o ds.reverse) S1) (qV X Z Q) := by
      cases x with
      | tup ds => exact absurd rfl (hn ds)
      | _ => exact q1
    obtain ⟨ds, a, xs, rfl, h2, h3, q4⟩ := q'.getL a1.rs rv
    exact ⟨a, xs, rfl, .inl ⟨h2, fun p hp => new_lst a1.rs h3.reverse q4 hp⟩⟩
  cases x with
  | tup ds =>
    obtain ⟨a, xs, rfl, h2, h3⟩ := RV.tup.mp rv
    exact ⟨a, xs, rfl, .inr ⟨h2, fun p hp => new_tup a1.rs h3.reverse q1 hp⟩⟩
  | _ => exact lst fun ds => by simp

/-! ### sum, max, min, any, all of lists -/
def intsD : List D → Option (List Int)
  | [] => some []
  | .int i :: ds => (intsD ds).bind fun is => some (i :: is)
  | _ :: _ => none
theorem intsD_ok : ∀ {ds : List D} {is : List Int}, intsD ds = some is → ds = is.map .int
  | [], _, h => by cases h; rfl
  | d :: ds, is, h => by
    cases d <;> first | (cases h; done) | skip
    obtain ⟨js, h1, h2⟩ := Option.bind_eq_some_iff.mp h
    cases h2
    rw [intsD_ok h1]
    rfl
theorem intsD_map (is : List Int) : intsD (is.map .int) = some is := by
  induction is with
  | nil => rfl
  | cons i is ih =>
    show (intsD (is.map .int)).bind _ = _
    rw [ih]
    rfl
def blsD : List D → Option (List Bool)
  | [] => some []
  | .bl i :: ds => (blsD ds).bind fun is => some (i :: is)
  | _ :: _ => none
theorem blsD_ok : ∀ {ds : List D} {is : List Bool}, blsD ds = some is → ds = is.map .bl
  | [], _, h => by cases h; rfl
  | d :: ds, is, h => by
    cases d <;> first | (cases h; done) | skip
    obtain ⟨js, h1, h2⟩ := Option.bind_eq_some_iff.mp h
    cases h2
    rw [blsD_ok h1]
    rfl
theorem RVs.intsV {K : PySem.W.Frag} {ρ : List Addr} {Z : Zt} {H : Hp} : ∀ {is : List Int} {vs : List V}, RVs K ρ Z H (is.map .int) vs → vs = is.map .int
  | [], _, h => RVs.nil.mp h
  | i :: is, _, h => by
    obtain ⟨x, r, rfl, h2, h3⟩ := RVs.cons.mp h
    rw [RV.int.mp h2, RVs.intsV h3]
    rfl
theorem RVs.blsV {K : PySem.W.Frag} {ρ : List Addr} {Z : Zt} {H : Hp} : ∀ {is : List Bool} {vs : List V}, RVs K ρ Z H (is.map .bl) vs → vs = is.map .bl
  | [], _, h => RVs.nil.mp h
  | i :: is, _, h => by
    obtain ⟨x, r, rfl, h2, h3⟩ := RVs.cons.mp h
    rw [RV.bl.mp h2, RVs.blsV h3]
    rfl
def gSum : MF
  | [d] => bnd (getL d) fun ds => opt (intsD ds) fun is => giv (.int is.sum)
  | _ => fail
def gMaxL : MF
  | [d] => bnd (getL d) fun ds => opt (intsD ds) fun is => opt is.max? fun m => giv (.int m)
  | _ => fail
def gMinL : MF
  | [d] => bnd (getL d) fun ds => opt (intsD ds) fun is => opt is.min? fun m => giv (.int m)
  | _ => fail
def gAny : MF
  | [d] => bnd (getL d) fun ds => opt (blsD ds) fun is => giv (.bl (is.any id))
  | _ => fail
def gAll : MF
  | [d] => bnd (getL d) fun ds => opt (blsD ds) fun is => giv (.bl (is.all id))
  | _ => fail
theorem oc_ints {r : List V → Hp → VK → Prop} {k : List Int → M D} (h : ∀ Z σ ρ H S (a : Addr) (is : List Int) Q, RS X.K ρ Z H X.mg S → SqL X.K H a (is.map .int) → GE X W Z σ ρ H (k is S) (qV X Z Q) → r [.ref a] H Q) : OC X W r fun xs => match xs with
    | [d] => bnd (getL d) fun ds => opt (intsD ds) k
    | _ => fail := by
  intro Z σ ρ H S ds vs Q s rs q
  match ds, q with
  | [d], q =>
    obtain ⟨v, rfl, h1⟩ := rvs1 rs
    obtain ⟨ds, a, xs, rfl, h2, h3, q⟩ := GE.getL s h1 q
    obtain ⟨is, e, q⟩ := GE.opt q
    rw [intsD_ok e] at h3
    rw [h3.intsV] at h2
    exact h Z σ ρ H S a is Q s h2 q
theorem oc_bls {r : List V → Hp → VK → Prop} {k : List Bool → M D} (h : ∀ Z σ ρ H S (a : Addr) (is : List Bool) Q, RS X.K ρ Z H X.mg S → SqL X.K H a (is.map .bl) → GE X W Z σ ρ H (k is S) (qV X Z Q) → r [.ref a] H Q) : OC X W r fun xs => match xs with
    | [d] => bnd (getL d) fun ds => opt (blsD ds) k
    | _ => fail := by
  intro Z σ ρ H S ds vs Q s rs q
  match ds, q with
  | [d], q =>
    obtain ⟨v, rfl, h1⟩ := rvs1 rs
    obtain ⟨ds, a, xs, rfl, h2, h3, q⟩ := GE.getL s h1 q
    obtain ⟨is, e, q⟩ := GE.opt q
    rw [blsD_ok e] at h3
    rw [h3.blsV] at h2
    exact h Z σ ρ H S a is Q s h2 q
theorem OC.same {r : List V → Hp → VK → Prop} {g g' : MF} (h : OC X W r g) (e : ∀ xs, g' xs = g xs) : OC X W r g' := fun Z σ ρ H S ds vs Q s rs q => h Z σ ρ H S ds vs Q s rs (by rw [← e]; exact q)
theorem oc_sum : OC X W (rSum X.K) gSum := (oc_ints (k := fun is => giv (.int is.sum)) fun Z σ ρ H S a is Q s h q => ⟨a, is, rfl, h, q.giv s _ (RV.int.mpr rfl)⟩).same fun xs => by
  match xs with
  | [] => rfl
  | [_] => rfl
  | _ :: _ :: _ => rfl
theorem oc_maxL : OC X W (rMax X.K) gMaxL := (oc_ints (k := fun is => opt is.max? fun m => giv (.int m)) fun Z σ ρ H S a is Q s h q => by
    obtain ⟨m, e, q⟩ := GE.opt q
    obtain ⟨h1, h2⟩ := List.max?_eq_some_iff.mp e
    refine ⟨a, is, rfl, h, List.length_pos_of_mem h1, fun m' h3 h4 => ?_⟩
    have : m' = m := Int.le_antisymm (h2 m' h3) (h4 m h1)
    rw [this]
    exact q.giv s _ (RV.int.mpr rfl)).same fun xs => by
  match xs with
  | [] => rfl
  | [_] => rfl
  | _ :: _ :: _ => rfl
theorem oc_minL : OC X W (rMin X.K) gMinL := (oc_ints (k := fun is => opt is.min? fun m => giv (.int m)) fun Z σ ρ H S a is Q s h q => by
    obtain ⟨m, e, q⟩ := GE.opt q
    obtain ⟨h1, h2⟩ := List.min?_eq_some_iff.mp e
    refine ⟨a, is, rfl, h, List.length_pos_of_mem h1, fun m' h3 h4 => ?_⟩
    have : m' = m := Int.le_antisymm (h4 m h1) (h2 m' h3)
    rw [this]
    exact q.giv s _ (RV.int.mpr rfl)).same fun xs => by
  match xs with
  | [] => rfl
  | [_] => rfl
  | _ :: _ :: _ => rfl
theorem oc_any : OC X W (rAny X.K) gAny := (oc_bls (k := fun is => giv (.bl (is.any id))) fun Z σ ρ H S a is Q s h q => ⟨a, is, rfl, h, q.giv s _ (RV.bl.mpr rfl)⟩).same fun xs => by
  match xs with
  | [] => rfl
  | [_] => rfl
  | _ :: _ :: _ => rfl
theorem oc_all : OC X W (rAll X.K) gAll := (oc_bls (k := fun is => giv (.bl (is.all id))) fun Z σ ρ H S a is Q s h q => ⟨a, is, rfl, h, q.giv s _ (RV.bl.mpr rfl)⟩).same fun xs => by
  match xs with
  | [] => rfl
  | [_] => rfl
  | _ :: _ :: _ => rfl
theorem se_sum (hc : X.calm = true) (hg : Gl X "sum" := by rfl) (hm : X.mg "sum" = none) (ha : SA X W [e] mas) (he : starEach [e] X.env = (false, eval e X.env) :: starEach [] X.env := by rfl) : SE X W (.Call (.Name "sum" p) [e] [] pos) (mF gSum mas) := se_cb (cr_sum hc) oc_sum hg hm (by decide +kernel) ha (he := he)
theorem se_maxL (hc : X.calm = true) (hg : Gl X "max" := by rfl) (hm : X.mg "max" = none) (ha : SA X W [e] mas) (he : starEach [e] X.env = (false, eval e X.env) :: starEach [] X.env := by rfl) : SE X W (.Call (.Name "max" p) [e] [] pos) (mF gMaxL mas) := se_cb (cr_max hc) oc_maxL hg hm (by decide +kernel) ha (he := he)
theorem se_minL (hc : X.calm = true) (hg : Gl X "min" := by rfl) (hm : X.mg "min" = none) (ha : SA X W [e] mas) (he : starEach [e] X.env = (false, eval e X.env) :: starEach [] X.env := by rfl) : SE X W (.Call (.Name "min" p) [e] [] pos) (mF gMinL mas) := se_cb (cr_min hc) oc_minL hg hm (by decide +kernel) ha (he := he)
theorem se_any (hc : X.calm = true) (hg : Gl X "any" := by rfl) (hm : X.mg "any" = none) (ha : SA X W [e] mas) (he : starEach [e] X.env = (false, eval e X.env) :: starEach [] X.env := by rfl) : SE X W (.Call (.Name "any" p) [e] [] pos) (mF gAny mas) := se_cb (cr_any hc) oc_any hg hm (by decide +kernel) ha (he := he)
theorem se_all (hc : X.calm = true) (hg : Gl X "all" := by rfl) (hm : X.mg "all" = none) (ha : SA X W [e] mas) (he : starEach [e] X.env = (false, eval e X.env) :: starEach [] X.env := by rfl) : SE X W (.Call (.Name "all" p) [e] [] pos) (mF gAll mas) := se_cb (cr_all hc) oc_all hg hm (by decide +kernel) ha (he := he)

/-! ### name += e, calls within a comprehension -/
theorem tk0 : L2N.Takes X W0 := fun u s' x => by
  obtain ⟨a, B, sI, pins, σ, H, cls, d, e, I, nb, up, sky, na, os, ag, w⟩ := x
  exact w.elim
def dInc : D → D → M D
  | .int i, .int j => giv (.int (i + j))
  | .str a, .str b => small (a.length + b.length) (giv (.str (a ++ b)))
  | _, _ => fail
abbrev rInc : R2 := fun x y H Q => (∃ i j, x = .int i ∧ y = .int j ∧ Q (.int (i + j)) H) ∨ (∃ i j, x = .str i ∧ y = .str j ∧ i.length + j.length ≤ sizeLine ∧ Q (.str (i ++ j)) H)
theorem iop_inc : OpR X (inplaceOp .Add) rInc := OpR.or iop_add iop_add_str
theorem o2_inc : O2 X W rInc dInc := by
  intro Z σ ρ H S x y v u Q s rv ru q
  cases x with
  | int i =>
    cases y with
    | int j => rw [RV.int.mp rv, RV.int.mp ru]; exact .inl ⟨i, j, rfl, rfl, q.giv s _ (RV.int.mpr rfl)⟩
    | _ => exact q.elim
  | str x =>
    cases y with
    | str y =>
      rw [RV.str.mp rv, RV.str.mp ru]
      obtain ⟨c, q⟩ := q.need
      exact .inr ⟨x, y, rfl, rfl, c, q.giv s _ (RV.str.mpr rfl)⟩
    | _ => exact q.elim
  | _ => exact q.elim
theorem ss_inc (i : Nat) {pos' : Pos} (hN : X.N.Nodup) (hi : X.N[i]? = some x) (hx : Loc X.env.scope x) (he : SE X W e ma) (hf : X.fn x = true ∨ X.env.scope.names.lookup x = some .local := by first | exact .inl rfl | exact .inr rfl | assumption) :
    SS X W (.AugAssign (.Name x pos') .Add e pos) (sAug i dInc ma) := ss_aug i iop_inc o2_inc hN hi hx he hf
end
/-! ### how they are worked out -/
section
variable {α β : Type} {S S' : Store} {env env' : Env} {x : Xc} {d y : D} {ds es : List D} {n : Nat} {s t : Str} {i j : Int} {o neg : Bool}
theorem x_chain {f g : D → D → M D} {ma mb mc : ME} : mChain f g ma mb mc env S = bndK (fun x => bnd (mb env) fun y => bnd (f x y) fun z => bnd (asB z) fun k => if k then bnd (mc env) fun w => g y w else giv (.bl false)) (ma env S) := x_bnd
theorem in_ssF : dIn false (.str s) (.str t) S = .ok (.bl (strIn s t)) S := (rfl)
theorem in_ssT : dIn true (.str s) (.str t) S = .ok (.bl (!strIn s t)) S := (rfl)
def inK (neg : Bool) (x : D) (ds : List D) : M D := need (flatD x = true ∧ ds.all flatD = true) (giv (.bl (if neg then !inD x ds else inD x ds)))
theorem in_t : dIn neg d (.tup ds) S = inK neg d ds S := by cases d <;> rfl
theorem in_r : dIn neg d (.rol ds) S = inK neg d ds S := by cases d <;> rfl
theorem in_o : dIn neg d (.obj n) S = bndK (inK neg d) (lstO S[n]? S) := by
  have e : dIn neg d (.obj n) S = bnd (fun S => lstO S[n]? S) (inK neg d) S := by cases d <;> rfl
  rw [e, x_bnd]
theorem x_inK (h : flatD d = true ∧ ds.all flatD = true) : inK neg d ds S = .ok (.bl (if neg then !inD d ds else inD d ds)) S := if_pos h
theorem flat_s : flatD (.str s) = true := (rfl)
theorem flat_i : flatD (.int i) = true := (rfl)
theorem inK_sF (h : ds.all flatD = true) : inK false (.str s) ds S = .ok (.bl (inD (.str s) ds)) S := if_pos ⟨rfl, h⟩
theorem inK_sT (h : ds.all flatD = true) : inK true (.str s) ds S = .ok (.bl (!inD (.str s) ds)) S := if_pos ⟨rfl, h⟩
theorem inD_nil : inD d [] = false := (rfl)
theorem inD_cons : inD d (y :: ds) = (eqD y d || inD d ds) := (rfl)
theorem eqD_ss : eqD (.str s) (.str t) = (s == t) := (rfl)
theorem rev_t : dRev o (.tup ds) S = .ok (.tup ds.reverse) S := (rfl)
theorem rev_r : dRev o (.rol ds) S = mkL o ds.reverse S := (rfl)
theorem sum_r : gSum [.rol ds] S = opt (intsD ds) (fun is => giv (.int is.sum)) S := (rfl)
theorem maxL_r : gMaxL [.rol ds] S = opt (intsD ds) (fun is => opt is.max? fun m => giv (.int m)) S := (rfl)
theorem minL_r : gMinL [.rol ds] S = opt (intsD ds) (fun is => opt is.min? fun m => giv (.int m)) S := (rfl)
theorem any_r : gAny [.rol ds] S = opt (blsD ds) (fun is => giv (.bl (is.any id))) S := (rfl)
theorem all_r : gAll [.rol ds] S = opt (blsD ds) (fun is => giv (.bl (is.all id))) S := (rfl)
theorem inc_ii : dInc (.int i) (.int j) S = .ok (.int (i + j)) S := (rfl)
theorem x_aug {k : Nat} {f : D → D → M D} {ma : ME} : sAug k f ma env S = sK env (fun x S0 => sBnd (ma env S0) env fun y S1 => sBnd (f x y S1) env fun z S2 => .nx (env.set k (some z)) S2) (slotM env[k]? S) := x_sBnd
theorem x_lc {vs : List Nat} {mi : Env → M Src} {g : MG} {t : MT} {e : ME} : mLc o vs mi g t e env S = bndK (fun src S1 => lcEnd o (compT src.ok (turn1 vs g t e env) src.ds [] S1)) (mi env S) := x_bnd
theorem x_lc2 {vs vs1 : List Nat} {mi mi1 : Env → M Src} {g g1 : MG} {t t1 : MT} {e : ME} : mLc2 o vs mi g t mi1 vs1 g1 t1 e env S = bndK (fun src S1 => lcEnd o (compT src.ok (turn2 vs g t mi1 vs1 g1 t1 e env) src.ds [] S1)) (mi env S) := x_bnd
theorem lcEnd_f {p : List D × Store} : lcEnd false (some p) = .ok (.rol p.1) p.2 := (rfl)
theorem lcEnd_t {p : List D × Store} : lcEnd true (some p) = .ok (.obj p.2.length) (p.2 ++ [.lst p.1]) := (rfl)
theorem x_yes : mYes env S = .ok true S := (rfl)
theorem compT_nil {ok : Store → Prop} {turn : MU} {acc : List D} (h : ok S) : compT ok turn [] acc S = some (acc, S) := by unfold compT; rw [if_pos h]
theorem compT_cons {ok : Store → Prop} {turn : MU} {acc acc' : List D} (h : ok S) (k : turn d acc S = some (acc', S')) : compT ok turn (d :: ds) acc S = compT ok turn ds acc' S' := by
  rw [compT, if_pos h, k]
  rfl
/-- a comprehension whose turns leave the store alone: by what each gives -/
theorem compT_pure {ok : Store → Prop} {turn : MU} (f : D → List D) (hok : ok S) : ∀ (ds acc : List D), (∀ d ∈ ds, ∀ acc : List D, acc.length + (f d).length ≤ 100000 → turn d acc S = some (acc ++ f d, S)) → acc.length + (ds.map fun d => (f d).length).sum ≤ 100000 → compT ok turn ds acc S = some (acc ++ (ds.map f).flatten, S)
  | [], acc, _, _ => by rw [compT_nil hok]; simp
  | d :: ds, acc, h, hl => by
    rw [List.map_cons, List.sum_cons] at hl
    rw [compT_cons hok (h d (List.mem_cons_self ..) acc (by omega)), compT_pure f hok ds _ (fun d' hd => h d' (List.mem_cons_of_mem _ hd)) (by rw [List.length_append]; omega)]
    simp
theorem line_lt {k : Nat} (h : k ≤ 100000) : k < sizeLine := by rw [sizeLine_eq]; omega
/-- a turn that keeps (or drops) one -/
theorem turn1_keep {vs : List Nat} {g : MG} {t : MT} {e : ME} {env env1 : Env} {acc : List D} {b : Bool} (hg : g d (wipeE env vs) S = .ok env1 S) (ht : t env1 S = .ok b S) (he : b = true → e env1 S = .ok y S) (hl : acc.length < sizeLine) :
    turn1 vs g t e env d acc S = some (acc ++ (if b then [y] else []), S) := by
  unfold turn1
  rw [hg]
  show rB (t env1 S) _ = _
  rw [ht]
  show (if b = true then _ else _) = _
  cases b with
  | false => simp
  | true =>
    rw [if_pos rfl, if_pos rfl, he rfl]
    show addC acc y S = _
    exact if_pos hl

theorem x_Sl {ma : ME} {ml mh : MO} : mSl o ma ml mh env S = bndK (fun x => bnd (ml env) fun l => bnd (mh env) fun h => dSl o x l h) (ma env S) := x_bnd
theorem x_oN : moNone env S = .ok none S := (rfl)
theorem x_oS {ma : ME} : moSome ma env S = bndK asI (ma env S) := x_bnd
theorem asI_i : asI (.int i) S = .ok (some i) S := (rfl)
theorem sl_t {lo hi : Option Int} : dSl o (.tup ds) lo hi S = .ok (.tup (cutD ds lo hi)) S := (rfl)
theorem sl_r {lo hi : Option Int} : dSl o (.rol ds) lo hi S = mkL o (cutD ds lo hi) S := (rfl)
theorem sl_s {lo hi : Option Int} (h : s.length ≤ sizeLine) : dSl o (.str s) lo hi S = .ok (.str (cutS s lo hi)) S := if_pos h
theorem cut1 {ds : List D} : cutD (d :: ds) (some 1) none = ds := by
  unfold cutD HT.sIx
  simp
theorem intsD_int (is : List Int) : opt (intsD (is.map D.int)) (fun is => giv (D.int is.sum)) S = .ok (D.int is.sum) S := by rw [intsD_map]; rfl
/-- the same with an index -/
theorem compT_zip {ι : Type} {ok : Store → Prop} {turn : MU} (g : ι → D) (f : ι → List D) (hok : ok S) : ∀ (as : List ι) (acc : List D), (∀ a ∈ as, ∀ acc : List D, acc.length + (f a).length ≤ 100000 → turn (g a) acc S = some (acc ++ f a, S)) → acc.length + (as.map fun a => (f a).length).sum ≤ 100000 →
    compT ok turn (as.map g) acc S = some (acc ++ (as.map f).flatten, S)
  | [], acc, _, _ => by rw [List.map_nil, compT_nil hok]; simp
  | a :: as, acc, h, hl => by
    rw [List.map_cons, List.sum_cons] at hl
    rw [List.map_cons, compT_cons hok (h a (List.mem_cons_self ..) acc (by omega)), compT_zip g f hok as _ (fun d' hd => h d' (List.mem_cons_of_mem _ hd)) (by rw [List.length_append]; omega)]
    simp
end
end Py

set_option Elab.async false
set_option linter.all false
set_option maxRecDepth 100000
/-! f-strings, divmod -/
namespace Py
open PySem PySem.Spec PyProof.Rows L2
def fmtD : D → M D
  | .str y => need (y.length ≤ sizeLine) (giv (.str y))
  | .int i => need (i.natAbs.log2 < 1920) (giv (.str (toString i)))
  | _ => fail
def joinK (acc : Str) (k : Str → M D) : D → M D
  | .str y => need ((acc ++ y).length ≤ sizeLine) (k (acc ++ y))
  | _ => fail
def mJs : List ME → Str → ME
  | [], acc => fun _ => giv (.str acc)
  | m :: ms, acc => fun env => bnd (m env) (joinK acc fun a => mJs ms a env)
section
variable {X : Cx} {W : WX} {pos p : Pos} {e v1 v2 : Expr} {es rest : List Expr} {ma : ME} {ms : List ME} {mas : MA}
theorem se_fmt (ha : SE X W e ma) : SE X W (.FormattedValue e (-1) none pos) (m1 fmtD ma) := by
  refine PE.imp (pe_fmt ha) fun σ H Q ⟨Z, ρ, env, S, a, q⟩ => ?_
  refine a.first q fun ρ1 H1 S1 x v a1 e1 rv q1 => ?_
  cases x with
  | str y =>
    obtain ⟨c, q1⟩ := GE.need q1
    exact .inl ⟨y, RV.str.mp rv, c, q1.giv a1.rs _ (RV.str.mpr rfl)⟩
  | int i =>
    obtain ⟨c, q1⟩ := GE.need q1
    exact .inr ⟨i, RV.int.mp rv, c, q1.giv a1.rs _ (RV.str.mpr rfl)⟩
  | _ => exact q1.elim
inductive SJ (X : Cx) (W : WX) : List Expr → List ME → Prop
  | nil : SJ X W [] []
  | cons {e : Expr} {m : ME} {es : List Expr} {ms : List ME} (h : SE X W e m) (r : SJ X W es ms) : SJ X W (e :: es) (m :: ms)
theorem sj_pj (h : SJ X W es ms) : PJ X es (ms.map (rd X W)) := by
  induction h with
  | nil => exact .nil
  | cons h r ih => exact .cons h ih
theorem js_ask {σ : L2.St} : ∀ (ms : List ME) (acc : Str) {H : Hp} {Q : VK}, rd X W (mJs ms acc) σ H Q → tJs (ms.map (rd X W)) acc σ H fun out H1 => Q (.str out) H1
  | [], acc, H, Q, ⟨Z, ρ, env, S, a, q⟩ => GE.giv (show GE X W Z σ ρ H (giv (.str acc) S) (qV X Z Q) from q) a.rs _ (RV.str.mpr rfl)
  | m :: ms, acc, H, Q, ⟨Z, ρ, env, S, a, q⟩ => by
    refine a.first (show GE X W Z σ ρ H (bnd (m env) (joinK acc fun a => mJs ms a env) S) (qV X Z Q) from q) fun ρ1 H1 S1 x v a1 e1 rv q1 => ?_
    cases x with
    | str y =>
      obtain ⟨c, q1⟩ := GE.need q1
      exact ⟨y, RV.str.mp rv, c, js_ask ms (acc ++ y) ⟨Z, ρ1, env, S1, a1, q1⟩⟩
    | _ => exact q1.elim
theorem se_joined (h : SJ X W (v1 :: v2 :: rest) ms) : SE X W (.JoinedStr (v1 :: v2 :: rest) pos) (mJs ms Str.empty) :=
  PE.imp (pe_joined (sj_pj h)) fun σ H Q q => js_ask ms Str.empty q
theorem se_joined1 (ha : SE X W e ma) : SE X W (.JoinedStr [e] pos) ma := PE.imp (pe_joined1 ha) fun _ _ _ q => q
def gDivmod : MF
  | [.int i, .int j] => need (0 < j ∧ j.natAbs.log2 < 9000) (giv (.tup [.int (i / j), .int (i % j)]))
  | _ => fail
theorem oc_divmod : OC X W (fun xs H Q => ∃ i j, xs = [.int i, .int j] ∧ CDivP i j ∧ ∀ p, H p = none → Q (.ref p) (upd H p (.tup [.int (i / j), .int (i % j)]))) gDivmod := by
  intro Z σ ρ H S ds vs Q s rs q
  match ds, q with
  | [.int i, .int j], q =>
    obtain ⟨v, w, rfl, h1, h2⟩ := rvs2 rs
    rw [RV.int.mp h1, RV.int.mp h2]
    obtain ⟨c, q⟩ := GE.need (show GE X W Z σ ρ H (need (0 < j ∧ j.natAbs.log2 < 9000) (giv (.tup [.int (i / j), .int (i % j)])) S) (qV X Z Q) from q)
    exact ⟨i, j, rfl, ⟨c.1, PyProof.noPylong_of_log2 c.2⟩, fun p hp => new_tup s (RVs.ints [i / j, i % j]) q hp⟩
theorem se_divmod {e2 : Expr} (hg : Gl X "divmod" := by rfl) (hm : X.mg "divmod" = none) (ha : SA X W [e, e2] mas) (he : starEach [e, e2] X.env = (false, eval e X.env) :: starEach [e2] X.env := by rfl) (hpl : (backTo pos (starEach [e2] X.env)).any (·.1) = false := by rfl) :
    SE X W (.Call (.Name "divmod" p) [e, e2] [] pos) (mF gDivmod mas) := se_cb call_divmodW oc_divmod hg hm (by decide +kernel) ha (he := he) (hpl := hpl)
end
section
variable {S : Store} {env : Env} {ms : List ME} {m : ME} {acc y s t : Str} {i j : Int} {o : Bool} {ds es : List D}
theorem fmt_s (h : s.length ≤ sizeLine) : fmtD (.str s) S = .ok (.str s) S := if_pos h
theorem fmt_i (h : i.natAbs.log2 < 1920) : fmtD (.int i) S = .ok (.str (toString i)) S := if_pos h
theorem js_nil : mJs [] acc env S = .ok (.str acc) S := (rfl)
theorem js_cons : mJs (m :: ms) acc env S = bndK (joinK acc fun a => mJs ms a env) (m env S) := x_bnd
theorem jk_s {k : Str → M D} (h : (acc ++ y).length ≤ sizeLine) : joinK acc k (.str y) S = k (acc ++ y) S := if_pos h
theorem dm_ii (h : 0 < j ∧ j.natAbs.log2 < 9000) : gDivmod [.int i, .int j] S = .ok (.tup [.int (i / j), .int (i % j)]) S := if_pos h
theorem inc_ss (h : s.length + t.length ≤ sizeLine) : dInc (.str s) (.str t) S = .ok (.str (s ++ t)) S := if_pos h
theorem add_tt (h : ds.length + es.length ≤ 1000) : dAdd o (.tup ds) (.tup es) S = .ok (.tup (ds ++ es)) S := if_pos (small_lit h)
theorem add_rr (h : ds.length + es.length ≤ 1000) : dAdd o (.rol ds) (.rol es) S = mkL o (ds ++ es) S := if_pos (small_lit h)
def addK (o : Bool) (es : List D) (ds : List D) : M D := small (ds.length + es.length) (mkL o (ds ++ es))
theorem add_or {n : Nat} : dAdd o (.obj n) (.rol es) S = bndK (addK o es) (lstO S[n]? S) := x_bnd
theorem x_addK (h : ds.length + es.length ≤ 1000) : addK o es ds S = mkL o (ds ++ es) S := if_pos (small_lit h)
theorem str_nil : Str.empty ++ s = s := by
  show Str.mk (#[] ++ s.cps) = s
  rw [Array.empty_append]
theorem str_assoc {a b c : Str} : a ++ b ++ c = a ++ (b ++ c) := by
  show Str.mk (a.cps ++ b.cps ++ c.cps) = Str.mk (a.cps ++ (b.cps ++ c.cps))
  rw [Array.append_assoc]
end
end Py

set_option Elab.async false
set_option linter.all false
/-! meanings that several laws share -/
namespace Py
open PySem PySem.Spec PyProof.Rows L2
noncomputable def m_fraction : MF := mDef 3 (
    (sSeq (sSet 2 (mF gGcd (mCons (mSlot 0) (mCons (mSlot 1) mNil))))
    (sSeq (sIf (mB (m2 (dCmp fun i j => decide (i < j)) (mSlot 1) (mC (.int 0)))) (sSet 2 (m1 dNeg (mSlot 2))) sNil)
    (sRet (mTup (mCons (m2 dDiv (mSlot 0) (mSlot 2)) (mCons (m2 dDiv (mSlot 1) (mSlot 2)) mNil)))))))

noncomputable def m_added : MF := mDef 2 (
    (sRet (mCall 2 m_fraction (mCons (m2 (dAdd false) (m2 dMul (m2 dIx (mSlot 0) (mC (.int 0))) (m2 dIx (mSlot 1) (mC (.int 1)))) (m2 dMul (m2 dIx (mSlot 1) (mC (.int 0))) (m2 dIx (mSlot 0) (mC (.int 1))))) (mCons (m2 dMul (m2 dIx (mSlot 0) (mC (.int 1))) (m2 dIx (mSlot 1) (mC (.int 1)))) mNil)))))

noncomputable def m_negated : MF := mDef 1 (
    (sRet (mTup (mCons (m1 dNeg (m2 dIx (mSlot 0) (mC (.int 0)))) (mCons (m2 dIx (mSlot 0) (mC (.int 1))) mNil)))))

noncomputable def m_subtracted : MF := mDef 2 (
    (sRet (mCall 2 m_added (mCons (mSlot 0) (mCons (mCall 1 m_negated (mCons (mSlot 1) mNil)) mNil)))))

noncomputable def m_multiplied : MF := mDef 2 (
    (sRet (mCall 2 m_fraction (mCons (m2 dMul (m2 dIx (mSlot 0) (mC (.int 0))) (m2 dIx (mSlot 1) (mC (.int 0)))) (mCons (m2 dMul (m2 dIx (mSlot 0) (mC (.int 1))) (m2 dIx (mSlot 1) (mC (.int 1)))) mNil)))))

noncomputable def m_divided : MF := mDef 2 (
    (sRet (mCall 2 m_fraction (mCons (m2 dMul (m2 dIx (mSlot 0) (mC (.int 0))) (m2 dIx (mSlot 1) (mC (.int 1)))) (mCons (m2 dMul (m2 dIx (mSlot 0) (mC (.int 1))) (m2 dIx (mSlot 1) (mC (.int 0)))) mNil)))))

noncomputable def L__law_tape_1 : MS := (sSet 1 (m2 dMod (mF gInt (mCons (m2 (dAdd false) (m2 dMul (mSlot 1) (mC (.int 31))) (mF gAbs (mCons (mF gInt (mCons (mSlot 2) mNil)) mNil))) mNil)) (mC (.int 2147483647))))
noncomputable def m__law_tape : MF := mDef 3 (
    (sSeq (sSet 1 (mC (.int 7)))
    (sSeq (sFor (iE srcL (mSlot 0)) (gNm 2) L__law_tape_1)
    (sRet (mLst true (mCons (mF (gList false) (mCons (mSlot 0) mNil)) (mCons (mC (.int 0)) (mCons (mC (.int 0)) (mCons (mSlot 1) mNil)))))))))

noncomputable def m__law_draw : MF := mDef 4 (
    (sSeq (sIf (mB (m2 dEq (m2 dIx (mSlot 0) (mC (.int 2))) (mC (.int 0)))) (sSeq (sSet 3 (m2 dIx (mSlot 0) (mC (.int 1))))
    (sSeq (sSet 2 (mC (.int 0)))
    (sSeq (sIf (mB (m2 (dCmp fun i j => decide (i < j)) (mSlot 3) (mF gLen (mCons (m2 dIx (mSlot 0) (mC (.int 0))) mNil)))) (sSet 2 (mF gAbs (mCons (mF gInt (mCons (m2 dIx (m2 dIx (mSlot 0) (mC (.int 0))) (mSlot 3)) mNil)) mNil))) (sSeq (sAsg (m2 dMod (mF gInt (mCons (m2 (dAdd false) (m2 (dAdd false) (m2 dMul (m2 dIx (mSlot 0) (mC (.int 3))) (mC (.int 48271))) (mSlot 3)) (mC (.int 1))) mNil)) (mC (.int 2147483647))) (gIt (mSlot 0) (mC (.int 3))))
    (sSet 2 (m2 dIx (mSlot 0) (mC (.int 3))))))
    (sSeq (sAsg (m2 (dAdd false) (mSlot 3) (mC (.int 1))) (gIt (mSlot 0) (mC (.int 1))))
    (sSeq (sIf (mB (m2 (dCmp fun i j => decide (i < j)) (mSlot 2) (m2 dPow (mC (.int 10)) (mC (.int 18))))) (sSeq (sSet 2 (m2 dMod (mF gInt (mCons (m2 (dAdd false) (m2 (dAdd false) (m2 dMul (mSlot 2) (mC (.int 48271))) (m2 dMul (mSlot 3) (mC (.int 69621)))) (mC (.int 5))) mNil)) (mC (.int 2147483647))))
    (sSeq (sSet 2 (m2 dMod (mF gInt (mCons (m2 dMul (mSlot 2) (mC (.int 69621))) mNil)) (mC (.int 2147483629))))
    (sRet (m2 dMod (mF gInt (mCons (mSlot 2) mNil)) (mF gMax2 (mCons (mSlot 1) (mCons (mC (.int 1)) mNil))))))) sNil)
    (sAsg (mSlot 2) (gIt (mSlot 0) (mC (.int 2))))))))) sNil)
    (sSeq (sSet 2 (m2 dIx (mSlot 0) (mC (.int 2))))
    (sSeq (sAsg (m2 dDiv (mSlot 2) (mF gMax2 (mCons (mSlot 1) (mCons (mC (.int 2)) mNil)))) (gIt (mSlot 0) (mC (.int 2))))
    (sRet (m2 dMod (mF gInt (mCons (mSlot 2) mNil)) (mF gMax2 (mCons (mSlot 1) (mCons (mC (.int 1)) mNil)))))))))

noncomputable def m__law_any : MF := mDef 1 (
    (sSeq (sIf (mAnd (mB (m2 dEq (m2 dIx (mSlot 0) (mC (.int 2))) (mC (.int 0)))) (mB (m2 (dCmp fun i j => decide (i < j)) (m2 dIx (mSlot 0) (mC (.int 1))) (mF gLen (mCons (m2 dIx (mSlot 0) (mC (.int 0))) mNil))))) (sSeq (sAsg (m2 (dAdd false) (m2 dIx (mSlot 0) (mC (.int 1))) (mC (.int 1))) (gIt (mSlot 0) (mC (.int 1))))
    (sRet (mF gInt (mCons (m2 dIx (m2 dIx (mSlot 0) (mC (.int 0))) (m2 dSub (m2 dIx (mSlot 0) (mC (.int 1))) (mC (.int 1)))) mNil)))) sNil)
    (sRet (m2 dSub (mCall 2 m__law_draw (mCons (mSlot 0) (mCons (mC (.int 2000001)) mNil))) (mC (.int 1000000))))))

noncomputable def m__law_same : Nat → MF
  | 0 => fun _ _ => .stuck
  | n + 1 => mDef 3 (
    (sSeq (sIf (mB (m2 dIs (mSlot 1) (mC .non))) (sRet (m2 dIs (mSlot 0) (mC .non))) sNil)
    (sSeq (sIf (mT (mIsi "tuple" (mSlot 1))) (sSeq (sIf (mOr (mNot (mT (mIsi "tuple" (mSlot 0)))) (mB (m2 dNe (mF gLen (mCons (mSlot 0) mNil)) (mF gLen (mCons (mSlot 1) mNil))))) (sRet (mC (.bl false))) sNil)
    (sSeq (sFor (iF rng1 (mCons (mF gLen (mCons (mSlot 1) mNil)) mNil)) (gNm 2) (sIf (mNot (mT (mCall 2 (m__law_same n) (mCons (m2 dIx (mSlot 0) (mSlot 2)) (mCons (m2 dIx (mSlot 1) (mSlot 2)) mNil))))) (sRet (mC (.bl false))) sNil))
    (sRet (mC (.bl true))))) sNil)
    (sSeq (sIf (mT (mIsi "bool" (mSlot 1))) (sRet (mAndV (mIsi "bool" (mSlot 0)) (m2 dEq (mSlot 0) (mSlot 1)))) sNil)
    (sSeq (sIf (mT (mIsi "str" (mSlot 1))) (sRet (mAndV (mIsi "str" (mSlot 0)) (m2 dEq (mSlot 0) (mSlot 1)))) sNil)
    (sRet (mAndV (mIsi "int" (mSlot 0)) (mAndV (mNotV (mIsi "bool" (mSlot 0))) (m2 dEq (mSlot 0) (mSlot 1))))))))))

noncomputable def L__law_gcd_1 : MS := (sSeq (sSet 2 (m2 dMod (mF gInt (mCons (mSlot 0) mNil)) (mSlot 1)))
    (sSeq (sSet 0 (mSlot 1))
    (sSet 1 (mSlot 2))))
noncomputable def m__law_gcd : MF := mDef 3 (
    (sSeq (sSet 0 (mF gAbs (mCons (mSlot 0) mNil)))
    (sSeq (sSet 1 (mF gAbs (mCons (mSlot 1) mNil)))
    (sSeq (sWhile (mB (m2 (dCmp fun i j => decide (j < i)) (mSlot 1) (mC (.int 0)))) L__law_gcd_1)
    (sRet (mSlot 0))))))

noncomputable def m__law_fraction : MF := mDef 3 (
    (sSeq (sSet 2 (mCall 2 m__law_gcd (mCons (mSlot 0) (mCons (mSlot 1) mNil))))
    (sSeq (sIf (mB (m2 (dCmp fun i j => decide (i < j)) (mSlot 1) (mC (.int 0)))) (sSet 2 (m1 dNeg (mSlot 2))) sNil)
    (sRet (mTup (mCons (m2 dDiv (mSlot 0) (mSlot 2)) (mCons (m2 dDiv (mSlot 1) (mSlot 2)) mNil)))))))

noncomputable def m__law_plus : MF := mDef 2 (
    (sRet (mCall 2 m__law_fraction (mCons (m2 (dAdd false) (m2 dMul (m2 dIx (mSlot 0) (mC (.int 0))) (m2 dIx (mSlot 1) (mC (.int 1)))) (m2 dMul (m2 dIx (mSlot 1) (mC (.int 0))) (m2 dIx (mSlot 0) (mC (.int 1))))) (mCons (m2 dMul (m2 dIx (mSlot 0) (mC (.int 1))) (m2 dIx (mSlot 1) (mC (.int 1)))) mNil)))))

noncomputable def m__law_minus : MF := mDef 2 (
    (sRet (mCall 2 m__law_fraction (mCons (m2 dSub (m2 dMul (m2 dIx (mSlot 0) (mC (.int 0))) (m2 dIx (mSlot 1) (mC (.int 1)))) (m2 dMul (m2 dIx (mSlot 1) (mC (.int 0))) (m2 dIx (mSlot 0) (mC (.int 1))))) (mCons (m2 dMul (m2 dIx (mSlot 0) (mC (.int 1))) (m2 dIx (mSlot 1) (mC (.int 1)))) mNil)))))

noncomputable def m__law_times : MF := mDef 2 (
    (sRet (mCall 2 m__law_fraction (mCons (m2 dMul (m2 dIx (mSlot 0) (mC (.int 0))) (m2 dIx (mSlot 1) (mC (.int 0)))) (mCons (m2 dMul (m2 dIx (mSlot 0) (mC (.int 1))) (m2 dIx (mSlot 1) (mC (.int 1)))) mNil)))))

noncomputable def m__law_over : MF := mDef 2 (
    (sRet (mCall 2 m__law_fraction (mCons (m2 dMul (m2 dIx (mSlot 0) (mC (.int 0))) (m2 dIx (mSlot 1) (mC (.int 1)))) (mCons (m2 dMul (m2 dIx (mSlot 0) (mC (.int 1))) (m2 dIx (mSlot 1) (mC (.int 0)))) mNil)))))

noncomputable def m__law_great : MF := mDef 3 (
    (sSeq (sSet 2 (mCall 1 m__law_any (mCons (mSlot 0) mNil)))
    (sSeq (sIf (mB (m2 (dCmp fun i j => decide (i < j)) (mSlot 2) (mC (.int 0)))) (sRet (m1 dNeg (m2 dMod (mF gInt (mCons (m1 dNeg (mSlot 2)) mNil)) (mSlot 1)))) sNil)
    (sRet (m2 dMod (mF gInt (mCons (mSlot 2) mNil)) (mSlot 1))))))

noncomputable def m__law_long : MF := mDef 4 (
    (sSeq (sSet 1 (m2 dIx (mLst false (mCons (mC (.int 10)) (mCons (mC (.int 1000)) (mCons (m2 dPow (mC (.int 10)) (mC (.int 60))) (mCons (m2 dMul (m2 dPow (mC (.int 10)) (mC (.int 60))) (m2 dPow (mC (.int 10)) (mC (.int 60)))) mNil))))) (mCall 2 m__law_draw (mCons (mSlot 0) (mCons (mC (.int 4)) mNil)))))
    (sSeq (sSet 2 (mCall 2 m__law_great (mCons (mSlot 0) (mCons (mSlot 1) mNil))))
    (sSeq (sSet 3 (mCall 2 m__law_great (mCons (mSlot 0) (mCons (m2 dIx (mLst false (mCons (mC (.int 2)) (mCons (mSlot 1) mNil))) (mCall 2 m__law_draw (mCons (mSlot 0) (mCons (mC (.int 2)) mNil)))) mNil))))
    (sSeq (sIf (mB (m2 dEq (mSlot 3) (mC (.int 0)))) (sSet 3 (mC (.int 1))) sNil)
    (sRet (mCall 2 m__law_fraction (mCons (mSlot 2) (mCons (mSlot 3) mNil)))))))))

noncomputable def m__law_is_integer : MF := mDef 1 (
    (sRet (mAndV (mIsi "int" (mSlot 0)) (mNotV (mIsi "bool" (mSlot 0))))))

noncomputable def m__law_is_fraction : MF := mDef 1 (
    (sSeq (sIf (mOr (mNot (mT (mIsi "tuple" (mSlot 0)))) (mB (m2 dNe (mF gLen (mCons (mSlot 0) mNil)) (mC (.int 2))))) (sRet (mC (.bl false))) sNil)
    (sSeq (sIf (mOr (mNot (mT (mCall 1 m__law_is_integer (mCons (m2 dIx (mSlot 0) (mC (.int 0))) mNil)))) (mNot (mT (mCall 1 m__law_is_integer (mCons (m2 dIx (mSlot 0) (mC (.int 1))) mNil))))) (sRet (mC (.bl false))) sNil)
    (sRet (mAndV (m2 (dCmp fun i j => decide (j < i)) (m2 dIx (mSlot 0) (mC (.int 1))) (mC (.int 0))) (m2 dEq (mCall 2 m__law_gcd (mCons (m2 dIx (mSlot 0) (mC (.int 0))) (mCons (m2 dIx (mSlot 0) (mC (.int 1))) mNil))) (mC (.int 1))))))))

noncomputable def m_floor_of : MF := mDef 1 (
    (sRet (m2 dDiv (m2 dIx (mSlot 0) (mC (.int 0))) (m2 dIx (mSlot 0) (mC (.int 1))))))

noncomputable def m_compared : MF := mDef 3 (
    (sSeq (sSet 2 (m2 dIx (mCall 2 m_subtracted (mCons (mSlot 0) (mCons (mSlot 1) mNil))) (mC (.int 0))))
    (sSeq (sIf (mB (m2 (dCmp fun i j => decide (i < j)) (mSlot 2) (mC (.int 0)))) (sRet (m1 dNeg (mC (.int 1)))) sNil)
    (sSeq (sIf (mB (m2 (dCmp fun i j => decide (j < i)) (mSlot 2) (mC (.int 0)))) (sRet (mC (.int 1))) sNil)
    (sRet (mC (.int 0)))))))

noncomputable def m_digits_of : MF := mDef 1 (
    (sRet (mF gMax2 (mCons (mF gLen (mCons (mF gStr (mCons (mF gAbs (mCons (m2 dIx (mSlot 0) (mC (.int 0))) mNil)) mNil)) mNil)) (mCons (mF gLen (mCons (mF gStr (mCons (m2 dIx (mSlot 0) (mC (.int 1))) mNil)) mNil)) mNil)))))

noncomputable def m__law_pick : MF := mDef 2 (
    (sRet (m2 dIx (mSlot 1) (mCall 2 m__law_draw (mCons (mSlot 0) (mCons (mF gLen (mCons (mSlot 1) mNil)) mNil))))))

noncomputable def m_operands_of : MF := mDef 2 (
    (sSeq (sSet 1 (m2 dIx (mSlot 0) (mC (.int 0))))
    (sSeq (sIf (mOr (mB (m2 (dIn false) (mSlot 1) (mTup (mCons (mC (.str "number")) (mCons (mC (.str "choice")) mNil))))) (mOr (mB (m2 (dIn false) (mSlot 1) (mC (.tup [(.str "here"), (.str "above"), (.str "last")])))) (mB (m2 (dIn false) (mSlot 1) (mC (.tup [(.str "<"), (.str "<="), (.str "="), (.str "<>"), (.str ">="), (.str ">")])))))) (sRet (mTup mNil)) sNil)
    (sSeq (sIf (mB (m2 dEq (mSlot 1) (mC (.str "/")))) (sRet (mTup (mCons (m2 dIx (mSlot 0) (mC (.int 1))) mNil))) sNil)
    (sRet (mSl false (mSlot 0) (moSome (mC (.int 1))) moNone))))))

noncomputable def L_parts_of_1 : MS := (sSeq (sSet 3 (mMe0 "list" gPop (mSlot 2)))
    (sSeq (sExp (mMe "list" gAppend (mSlot 1) (mCons (mSlot 3) mNil)))
    (sExp (mMe "list" gExtend (mSlot 2) (mCons (m1 (dRev false) (mCall 1 m_operands_of (mCons (mSlot 3) mNil))) mNil)))))
noncomputable def m_parts_of : MF := mDef 4 (
    (sSeq (sSet 1 (mLst true mNil))
    (sSeq (sSet 2 (mLst true (mCons (mSlot 0) mNil)))
    (sSeq (sWhile (mT (mSlot 2)) L_parts_of_1)
    (sRet (mSlot 1))))))

noncomputable def m__own_parts : MF := mDef 1 (
    (sSeq (sIf (mB (m2 (dIn false) (m2 dIx (mSlot 0) (mC (.int 0))) (mC (.tup [(.str "<"), (.str "<="), (.str "="), (.str "<>"), (.str ">="), (.str ">")])))) (sRet (mC (.int 3))) sNil)
    (sSeq (sIf (mB (m2 dEq (m2 dIx (mSlot 0) (mC (.int 0))) (mC (.str "/")))) (sRet (mC (.int 2))) sNil)
    (sRet (mC (.int 1))))))

noncomputable def m_count_parts : MF := mDef 2 (
    (sRet (mF gSum (mCons (mLc false [1] (iE srcL (mCall 1 m_parts_of (mCons (mSlot 0) mNil))) (gNm 1) mYes (mCall 1 m__own_parts (mCons (mSlot 1) mNil))) mNil))))

noncomputable def L_depth_of_1 : MS := (sSeq (sAug 1 dInc (mC (.int 1)))
    (sSet 2 (mLc2 false [3, 4] (iE srcL (mSlot 2)) (gNm 3) mYes (iE srcT (mCall 1 m_operands_of (mCons (mSlot 3) mNil))) [4] (gNm 4) mYes (mSlot 4))))
noncomputable def m_depth_of : MF := mDef 5 (
    (sSeq (sSet 1 (mC (.int 0)))
    (sSeq (sSet 2 (mLst false (mCons (mSlot 0) mNil)))
    (sSeq (sWhile (mT (mSlot 2)) L_depth_of_1)
    (sRet (mSlot 1))))))

noncomputable def L__law_fresh_1 : MS := (sIf (mB (m2 (dIn true) (m2 (dAdd false) (m2 (dAdd false) (mSl false (mSlot 0) moNone (moSome (mC (.int 16)))) (mC (.str "Z"))) (mF gStr (mCons (mSlot 2) mNil))) (mSlot 1))) (sRet (m2 (dAdd false) (m2 (dAdd false) (mSl false (mSlot 0) moNone (moSome (mC (.int 16)))) (mC (.str "Z"))) (mF gStr (mCons (mSlot 2) mNil)))) sNil)
noncomputable def m__law_fresh : MF := mDef 3 (
    (sSeq (sIf (mAnd (mB (m2 (dIn true) (mSlot 0) (mLst false (mCons (mC (.str "if")) (mCons (mC (.str "and")) (mCons (mC (.str "or")) (mCons (mC (.str "not")) (mCons (mC (.str "sum")) (mCons (mC (.str "last")) (mCons (mC (.str "floor")) mNil)))))))))) (mB (m2 (dIn true) (mSlot 0) (mSlot 1)))) (sRet (mSlot 0)) sNil)
    (sSeq (sFor (iF rng1 (mCons (m2 (dAdd false) (mF gLen (mCons (mSlot 1) mNil)) (mC (.int 1))) mNil)) (gNm 2) L__law_fresh_1)
    (sRet (mSlot 0)))))

noncomputable def L__law_names_1 : MS := (sSet 6 (m2 (dAdd false) (mSlot 6) (m2 dIx (mSlot 2) (mCall 2 m__law_draw (mCons (mSlot 0) (mCons (mC (.int 62)) mNil))))))
noncomputable def L__law_names_2 : MS := (sSeq (sSet 6 (m2 (dAdd false) (mSlot 3) (m2 dIx (mSlot 2) (mCall 2 m__law_draw (mCons (mSlot 0) (mCons (mC (.int 52)) mNil))))))
    (sSeq (sFor (iF rng1 (mCons (mCall 2 m__law_pick (mCons (mSlot 0) (mCons (mLst false (mCons (mC (.int 0)) (mCons (mC (.int 0)) (mCons (mC (.int 1)) (mCons (mC (.int 2)) mNil))))) mNil))) mNil)) (gNm 7) L__law_names_1)
    (sSeq (sIf (mB (m2 dEq (mCall 2 m__law_draw (mCons (mSlot 0) (mCons (mC (.int 8)) mNil))) (mC (.int 0)))) (sSet 6 (mCall 2 m__law_pick (mCons (mSlot 0) (mCons (mLst false (mCons (mC (.str "iff")) (mCons (mC (.str "sums")) (mCons (mC (.str "last1")) (mCons (mC (.str "nota")) (mCons (mC (.str "orb")) (mCons (mC (.str "andy")) (mCons (mC (.str "floors")) (mCons (mC (.str "IF")) (mCons (mC (.str "Sum")) (mCons (mC (.str "not")) mNil))))))))))) mNil)))) sNil)
    (sExp (mMe "list" gAppend (mSlot 4) (mCons (mCall 2 m__law_fresh (mCons (mSlot 6) (mCons (mSlot 4) mNil))) mNil))))))
noncomputable def m__law_names : MF := mDef 8 (
    (sSeq (sSet 2 (mC (.str "abcdefghijklmnopqrstuvwxyzABCDEFGHIJKLMNOPQRSTUVWXYZ0123456789")))
    (sSeq (sSet 3 (mCall 2 m__law_pick (mCons (mSlot 0) (mCons (mLst false (mCons (mC (.str "")) (mCons (mC (.str "")) (mCons (mC (.str "")) (mCons (mC (.str "x")) (mCons (mC (.str "sumOfTheLastFloor")) mNil)))))) mNil))))
    (sSeq (sSet 4 (mLst true mNil))
    (sSeq (sFor (iF rng1 (mCons (mSlot 1) mNil)) (gNm 5) L__law_names_2)
    (sRet (mSlot 4)))))))

noncomputable def L__law_word_1 : MS := (sSet 2 (m2 (dAdd false) (mSlot 2) (mCall 2 m__law_pick (mCons (mSlot 0) (mCons (mSlot 1) mNil)))))
noncomputable def m__law_word : MF := mDef 4 (
    (sSeq (sSet 1 (mC (.str " !#$&'()*+,-./0123456789:;<=>?@ABCDEFGHIJKLMNOPQRSTUVWXYZ[\\]^_`abcdefghijklmnopqrstuvwxyz{|}~")))
    (sSeq (sSet 2 (mCall 2 m__law_pick (mCons (mSlot 0) (mCons (mLst false (mCons (mC (.str "")) (mCons (mC (.str "")) (mCons (mC (.str "")) (mCons (mC (.str "x[-1] + ")) (mCons (mC (.str "if(a = 1, a, last(b")) mNil)))))) mNil))))
    (sSeq (sFor (iF rng1 (mCons (mCall 2 m__law_pick (mCons (mSlot 0) (mCons (mLst false (mCons (mC (.int 1)) (mCons (mC (.int 1)) (mCons (mC (.int 1)) (mCons (mC (.int 2)) (mCons (mC (.int 3)) mNil)))))) mNil))) mNil)) (gNm 3) L__law_word_1)
    (sRet (mSl false (mSlot 2) moNone (moSome (mC (.int 20)))))))))

noncomputable def L__law_words_1 : MS := (sIf (mB (m2 (dIn false) (mSlot 4) (mSlot 2))) (sSet 4 (m2 (dAdd false) (mSl false (mSlot 4) moNone (moSome (mC (.int 19)))) (mSlot 5))) sNil)
noncomputable def L__law_words_2 : MS := (sSeq (sSet 4 (mCall 1 m__law_word (mCons (mSlot 0) mNil)))
    (sSeq (sFor (iE srcS (mC (.str "abcdefgh"))) (gNm 5) L__law_words_1)
    (sExp (mMe "list" gAppend (mSlot 2) (mCons (mSlot 4) mNil)))))
noncomputable def m__law_words : MF := mDef 6 (
    (sSeq (sSet 2 (mLst true mNil))
    (sSeq (sFor (iF rng1 (mCons (mSlot 1) mNil)) (gNm 3) L__law_words_2)
    (sRet (mSlot 2)))))

noncomputable def m__law_decimal : MF := mDef 4 (
    (sSeq (sSet 1 (mLst false (mCons (mC (.int 1)) (mCons (mC (.int 10)) (mCons (mC (.int 100)) (mCons (mC (.int 1000)) (mCons (m2 dPow (mC (.int 10)) (mC (.int 4))) (mCons (m2 dPow (mC (.int 10)) (mC (.int 5))) (mCons (m2 dPow (mC (.int 10)) (mC (.int 6))) (mCons (m2 dPow (mC (.int 10)) (mC (.int 7))) (mCons (m2 dPow (mC (.int 10)) (mC (.int 8))) (mCons (m2 dPow (mC (.int 10)) (mC (.int 9))) mNil))))))))))))
    (sSeq (sSet 2 (mCall 2 m__law_pick (mCons (mSlot 0) (mCons (mLst false (mCons (mC (.int 0)) (mCons (mC (.int 0)) (mCons (mC (.int 0)) (mCons (mC (.int 0)) (mCons (mC (.int 1)) (mCons (mC (.int 1)) (mCons (mC (.int 2)) (mCons (mC (.int 8)) (mCons (mCall 2 m__law_draw (mCons (mSlot 0) (mCons (mC (.int 9)) mNil))) mNil)))))))))) mNil))))
    (sSeq (sSet 3 (mCall 2 m__law_pick (mCons (mSlot 0) (mCons (mLst false (mCons (mC (.int 0)) (mCons (mC (.int 1)) (mCons (mCall 2 m__law_draw (mCons (mSlot 0) (mCons (mC (.int 10)) mNil))) (mCons (mCall 2 m__law_draw (mCons (mSlot 0) (mCons (m2 dIx (mSlot 1) (m2 dSub (mC (.int 9)) (mSlot 2))) mNil))) mNil))))) mNil))))
    (sRet (mCall 2 m__law_fraction (mCons (m2 (dAdd false) (m2 dMul (mSlot 3) (m2 dIx (mSlot 1) (mSlot 2))) (mCall 2 m__law_draw (mCons (mSlot 0) (mCons (m2 dIx (mSlot 1) (mSlot 2)) mNil)))) (mCons (m2 dIx (mSlot 1) (mSlot 2)) mNil))))))))

noncomputable def m__law_reference : MF := mDef 2 (
    (sRet (mTup (mCons (mCall 2 m__law_pick (mCons (mSlot 0) (mCons (mLst false (mCons (mC (.str "here")) (mCons (mC (.str "here")) (mCons (mC (.str "here")) (mCons (mC (.str "above")) (mCons (mC (.str "last")) mNil)))))) mNil))) (mCons (mCall 2 m__law_pick (mCons (mSlot 0) (mCons (mSlot 1) mNil))) mNil)))))

noncomputable def m__law_wild_test : Nat → MF
  | 0 => fun _ _ => .stuck
  | n + 1 => mDef 10 (
    (sSeq (sSet 5 (mCall 2 m__law_draw (mCons (mSlot 0) (mCons (mC (.int 8)) mNil))))
    (sSeq (sIf (mAnd (mB (m2 (dCmp fun i j => decide (j < i)) (mSlot 3) (mC (.int 1)))) (mAnd (mB (m2 (dCmp fun i j => decide (j < i)) (mSlot 4) (mC (.int 3)))) (mB (m2 (dCmp fun i j => decide (i < j)) (mSlot 5) (mC (.int 2)))))) (sRet (mTup (mCons (mC (.str "not")) (mCons (mCall 5 (m__law_wild_test n) (mCons (mSlot 0) (mCons (mSlot 1) (mCons (mSlot 2) (mCons (m2 dSub (mSlot 3) (mC (.int 1))) (mCons (m2 dSub (mSlot 4) (mC (.int 1))) mNil)))))) mNil)))) sNil)
    (sSeq (sIf (mAnd (mB (m2 (dCmp fun i j => decide (j < i)) (mSlot 3) (mC (.int 1)))) (mAnd (mB (m2 (dCmp fun i j => decide (j < i)) (mSlot 4) (mC (.int 6)))) (mB (m2 (dCmp fun i j => decide (i < j)) (mSlot 5) (mC (.int 6)))))) (sSeq (sSet 8 (m2 (dAdd false) (mC (.int 3)) (mCall 2 m__law_draw (mCons (mSlot 0) (mCons (m2 dSub (mSlot 4) (mC (.int 6))) mNil)))))
    (sSeq (sSet 9 (mCall 5 (m__law_wild_test n) (mCons (mSlot 0) (mCons (mSlot 1) (mCons (mSlot 2) (mCons (m2 dSub (mSlot 3) (mC (.int 1))) (mCons (mSlot 8) mNil)))))))
    (sRet (mTup (mCons (m2 dIx (mLst false (mCons (mC (.str "and")) (mCons (mC (.str "or")) mNil))) (m2 dMod (mF gInt (mCons (mSlot 5) mNil)) (mC (.int 2)))) (mCons (mSlot 9) (mCons (mCall 5 (m__law_wild_test n) (mCons (mSlot 0) (mCons (mSlot 1) (mCons (mSlot 2) (mCons (m2 dSub (mSlot 3) (mC (.int 1))) (mCons (m2 dSub (m2 dSub (mSlot 4) (mC (.int 1))) (mSlot 8)) mNil)))))) mNil))))))) sNil)
    (sSeq (sSet 6 (mCall 2 m__law_reference (mCons (mSlot 0) (mCons (mSlot 1) mNil))))
    (sSeq (sIf (mB (m2 dEq (mSlot 5) (mC (.int 7)))) (sRet (mTup (mCons (mCall 2 m__law_pick (mCons (mSlot 0) (mCons (mLst false (mCons (mC (.str "=")) (mCons (mC (.str "<>")) mNil))) mNil))) (mCons (mSlot 6) (mCons (mCall 2 m__law_pick (mCons (mSlot 0) (mCons (mSlot 2) mNil))) mNil))))) sNil)
    (sSeq (sSet 7 (mCall 2 m__law_pick (mCons (mSlot 0) (mCons (mLst false (mCons (mC (.int 0)) (mCons (mC (.int 1)) (mCons (mC (.int 5)) (mCons (mC (.int 999999999)) (mCons (mCall 2 m__law_draw (mCons (mSlot 0) (mCons (mC (.int 1000)) mNil))) (mCons (mCall 2 m__law_draw (mCons (mSlot 0) (mCons (m2 dPow (mC (.int 10)) (mC (.int 9))) mNil))) mNil))))))) mNil))))
    (sRet (mTup (mCons (mCall 2 m__law_pick (mCons (mSlot 0) (mCons (mLst false (mCons (mC (.str "=")) (mCons (mC (.str "<>")) (mCons (mC (.str "<")) (mCons (mC (.str "<=")) (mCons (mC (.str ">")) (mCons (mC (.str ">=")) mNil))))))) mNil))) (mCons (mSlot 6) (mCons (m2 dIx (mLst false (mCons (mSlot 7) (mCons (m1 dNeg (mSlot 7)) mNil))) (mCall 2 m__law_draw (mCons (mSlot 0) (mCons (mC (.int 2)) mNil)))) mNil))))))))))))

noncomputable def m__law_wild : Nat → MF
  | 0 => fun _ _ => .stuck
  | n + 1 => mDef 12 (
    (sSeq (sSet 5 (mCall 2 m__law_draw (mCons (mSlot 0) (mCons (mC (.int 16)) mNil))))
    (sSeq (sIf (mOr (mB (m2 dEq (mSlot 3) (mC (.int 1)))) (mOr (mB (m2 dEq (mSlot 4) (mC (.int 1)))) (mB (m2 (dCmp fun i j => decide (i < j)) (mSlot 5) (mC (.int 2)))))) (sSeq (sIf (mB (m2 (dCmp fun i j => decide (i < j)) (mSlot 5) (mC (.int 5)))) (sRet (mTup (mCons (mC (.str "number")) (mCons (mCall 1 m__law_decimal (mCons (mSlot 0) mNil)) mNil)))) sNil)
    (sRet (mIfE (mB (m2 dEq (mSlot 5) (mC (.int 5)))) (mTup (mCons (mC (.str "choice")) (mCons (mCall 2 m__law_pick (mCons (mSlot 0) (mCons (mSlot 2) mNil))) mNil))) (mCall 2 m__law_reference (mCons (mSlot 0) (mCons (mSlot 1) mNil)))))) sNil)
    (sSeq (sIf (mOr (mB (m2 (dCmp fun i j => decide (i < j)) (mSlot 5) (mC (.int 5)))) (mB (m2 dEq (mSlot 4) (mC (.int 2))))) (sSeq (sSet 8 (mCall 2 m__law_pick (mCons (mSlot 0) (mCons (mLst false (mCons (mC (.str "neg")) (mCons (mC (.str "neg")) (mCons (mC (.str "floor")) (mCons (mC (.str "sum")) mNil))))) mNil))))
    (sRet (mTup (mCons (mSlot 8) (mCons (mCall 5 (m__law_wild n) (mCons (mSlot 0) (mCons (mSlot 1) (mCons (mSlot 2) (mCons (m2 dSub (mSlot 3) (mC (.int 1))) (mCons (m2 dSub (mSlot 4) (mC (.int 1))) mNil)))))) mNil))))) sNil)
    (sSeq (sIf (mB (m2 dEq (mSlot 5) (mC (.int 5)))) (sSeq (sSet 9 (mCall 1 m__law_decimal (mCons (mSlot 0) mNil)))
    (sSeq (sIf (mB (m2 dEq (m2 dIx (mSlot 9) (mC (.int 0))) (mC (.int 0)))) (sSet 9 (mTup (mCons (mC (.int 5)) (mCons (mC (.int 2)) mNil)))) sNil)
    (sRet (mTup (mCons (mC (.str "/")) (mCons (mCall 5 (m__law_wild n) (mCons (mSlot 0) (mCons (mSlot 1) (mCons (mSlot 2) (mCons (m2 dSub (mSlot 3) (mC (.int 1))) (mCons (m2 dSub (mSlot 4) (mC (.int 2))) mNil)))))) (mCons (mSlot 9) mNil))))))) sNil)
    (sSeq (sIf (mAnd (mB (m2 (dCmp fun i j => decide (i < j)) (mSlot 5) (mC (.int 9)))) (mB (m2 (dCmp fun i j => decide (j < i)) (mSlot 4) (mC (.int 5))))) (sSeq (sSet 6 (m2 (dAdd false) (mC (.int 3)) (mCall 2 m__law_draw (mCons (mSlot 0) (mCons (m2 dSub (mSlot 4) (mC (.int 5))) mNil)))))
    (sSeq (sSet 10 (mCall 5 (m__law_wild_test 12) (mCons (mSlot 0) (mCons (mSlot 1) (mCons (mSlot 2) (mCons (m2 dSub (mSlot 3) (mC (.int 1))) (mCons (mSlot 6) mNil)))))))
    (sSeq (sSet 11 (m2 dSub (m2 dSub (mSlot 4) (mC (.int 1))) (mSlot 6)))
    (sSeq (sSet 6 (m2 (dAdd false) (mC (.int 1)) (mCall 2 m__law_draw (mCons (mSlot 0) (mCons (m2 dSub (mSlot 11) (mC (.int 1))) mNil)))))
    (sSeq (sSet 7 (mCall 5 (m__law_wild n) (mCons (mSlot 0) (mCons (mSlot 1) (mCons (mSlot 2) (mCons (m2 dSub (mSlot 3) (mC (.int 1))) (mCons (mSlot 6) mNil)))))))
    (sRet (mTup (mCons (mC (.str "if")) (mCons (mSlot 10) (mCons (mSlot 7) (mCons (mCall 5 (m__law_wild n) (mCons (mSlot 0) (mCons (mSlot 1) (mCons (mSlot 2) (mCons (m2 dSub (mSlot 3) (mC (.int 1))) (mCons (m2 dSub (mSlot 11) (mSlot 6)) mNil)))))) mNil))))))))))) sNil)
    (sSeq (sSet 6 (m2 (dAdd false) (mC (.int 1)) (mCall 2 m__law_draw (mCons (mSlot 0) (mCons (m2 dSub (mSlot 4) (mC (.int 2))) mNil)))))
    (sSeq (sSet 7 (mCall 5 (m__law_wild n) (mCons (mSlot 0) (mCons (mSlot 1) (mCons (mSlot 2) (mCons (m2 dSub (mSlot 3) (mC (.int 1))) (mCons (mSlot 6) mNil)))))))
    (sRet (mTup (mCons (m2 dIx (mLst false (mCons (mC (.str "+")) (mCons (mC (.str "-")) (mCons (mC (.str "*")) mNil)))) (m2 dMod (mF gInt (mCons (mSlot 5) mNil)) (mC (.int 3)))) (mCons (mSlot 7) (mCons (mCall 5 (m__law_wild n) (mCons (mSlot 0) (mCons (mSlot 1) (mCons (mSlot 2) (mCons (m2 dSub (mSlot 3) (mC (.int 1))) (mCons (m2 dSub (m2 dSub (mSlot 4) (mC (.int 1))) (mSlot 6)) mNil)))))) mNil)))))))))))))

noncomputable def m__law_parts : Nat → MF
  | 0 => fun _ _ => .stuck
  | n + 1 => mDef 3 (
    (sSeq (sIf (mB (m2 (dIn false) (m2 dIx (mSlot 0) (mC (.int 0))) (mLst false (mCons (mC (.str "number")) (mCons (mC (.str "choice")) (mCons (mC (.str "here")) (mCons (mC (.str "above")) (mCons (mC (.str "last")) mNil)))))))) (sRet (mC (.int 1))) sNil)
    (sSeq (sIf (mB (m2 (dIn false) (m2 dIx (mSlot 0) (mC (.int 0))) (mLst false (mCons (mC (.str "<")) (mCons (mC (.str "<=")) (mCons (mC (.str "=")) (mCons (mC (.str "<>")) (mCons (mC (.str ">=")) (mCons (mC (.str ">")) mNil))))))))) (sRet (mC (.int 3))) sNil)
    (sSeq (sSet 1 (mLc false [2] (iE srcT (mSl false (mSlot 0) (moSome (mC (.int 1))) moNone)) (gNm 2) (mAnd (mT (mIsi "tuple" (mSlot 2))) (mT (mIsi "str" (m2 dIx (mSlot 2) (mC (.int 0)))))) (mSlot 2)))
    (sRet (m2 (dAdd false) (m2 (dAdd false) (mC (.int 1)) (mF gInt (mCons (m2 dEq (m2 dIx (mSlot 0) (mC (.int 0))) (mC (.str "/"))) mNil))) (mF gSum (mCons (mLc false [2] (iE srcL (mSlot 1)) (gNm 2) mYes (mCall 1 (m__law_parts n) (mCons (mSlot 2) mNil))) mNil))))))))

noncomputable def L__law_chain_1 : MS := (sSeq (sSet 6 (mCall 2 m__law_pick (mCons (mSlot 0) (mCons (mLst false (mCons (mTup (mCons (mC (.str "here")) (mCons (mCall 2 m__law_pick (mCons (mSlot 0) (mCons (mSlot 1) mNil))) mNil))) (mCons (mTup (mCons (mC (.str "number")) (mCons (mTup (mCons (mSlot 5) (mCons (mC (.int 1)) mNil))) mNil))) mNil))) mNil))))
    (sSeq (sSet 7 (mCall 2 m__law_draw (mCons (mSlot 0) (mCons (mC (.int 2)) mNil))))
    (sIf (mB (m2 (dCmp fun i j => decide (j ≤ i)) (mSlot 5) (mSlot 4))) (sSet 3 (mTup (mCons (m2 dIx (mLst false (mCons (mC (.str "+")) (mCons (mC (.str "-")) mNil))) (mSlot 7)) (mCons (mSlot 3) (mCons (mSlot 6) mNil))))) (sIf (mB (m2 dEq (mSlot 7) (mC (.int 0)))) (sSet 3 (mTup (mCons (mC (.str "*")) (mCons (mSlot 3) (mCons (mSlot 6) mNil))))) (sSet 3 (mTup (mCons (mC (.str "/")) (mCons (mSlot 3) (mCons (mTup (mCons (m2 (dAdd false) (mSlot 5) (mC (.int 1))) (mCons (mC (.int 1)) mNil))) mNil)))))))))
noncomputable def m__law_chain : MF := mDef 8 (
    (sSeq (sSet 3 (mTup (mCons (mC (.str "here")) (mCons (mCall 2 m__law_pick (mCons (mSlot 0) (mCons (mSlot 1) mNil))) mNil))))
    (sSeq (sSet 4 (mCall 2 m__law_draw (mCons (mSlot 0) (mCons (m2 (dAdd false) (mSlot 2) (mC (.int 1))) mNil))))
    (sSeq (sFor (iF rng1 (mCons (m2 dSub (mSlot 2) (mC (.int 1))) mNil)) (gNm 5) L__law_chain_1)
    (sRet (mSlot 3))))))

noncomputable def L__law_tall_1 : MS := (sSeq (sSet 5 (mCall 2 m__law_draw (mCons (mSlot 0) (mCons (mC (.int 4)) mNil))))
    (sIf (mB (m2 (dCmp fun i j => decide (i < j)) (mSlot 5) (mC (.int 2)))) (sSet 3 (mTup (mCons (m2 dIx (mLst false (mCons (mC (.str "neg")) (mCons (mC (.str "floor")) mNil))) (mSlot 5)) (mCons (mSlot 3) mNil)))) (sSet 3 (mTup (mCons (m2 dIx (mLst false (mCons (mC (.str "+")) (mCons (mC (.str "-")) mNil))) (m2 dSub (mSlot 5) (mC (.int 2)))) (mCons (mTup (mCons (mC (.str "here")) (mCons (mCall 2 m__law_pick (mCons (mSlot 0) (mCons (mSlot 1) mNil))) mNil))) (mCons (mSlot 3) mNil)))))))
noncomputable def m__law_tall : MF := mDef 6 (
    (sSeq (sSet 3 (mCall 2 m__law_reference (mCons (mSlot 0) (mCons (mSlot 1) mNil))))
    (sSeq (sFor (iF rng1 (mCons (mSlot 2) mNil)) (gNm 4) L__law_tall_1)
    (sRet (mSlot 3)))))

noncomputable def L__law_tests_1 : MS := (sSeq (sSet 6 (mTup (mCons (mCall 2 m__law_pick (mCons (mSlot 0) (mCons (mLst false (mCons (mC (.str "<")) (mCons (mC (.str "<=")) (mCons (mC (.str "=")) (mCons (mC (.str "<>")) (mCons (mC (.str ">=")) (mCons (mC (.str ">")) mNil))))))) mNil))) (mCons (mTup (mCons (mC (.str "here")) (mCons (mCall 2 m__law_pick (mCons (mSlot 0) (mCons (mSlot 1) mNil))) mNil))) (mCons (mSlot 5) mNil)))))
    (sIf (mB (m2 dIs (mSlot 4) (mC .non))) (sSet 4 (mSlot 6)) (sSet 4 (mTup (mCons (m2 dIx (mLst false (mCons (mC (.str "or")) (mCons (mC (.str "and")) mNil))) (mF gInt (mCons (m2 (dCmp fun i j => decide (i < j)) (mSlot 5) (mSlot 3)) mNil))) (mCons (mSlot 4) (mCons (mSlot 6) mNil)))))))
noncomputable def m__law_tests : MF := mDef 7 (
    (sSeq (sSet 3 (mCall 2 m__law_draw (mCons (mSlot 0) (mCons (m2 (dAdd false) (mSlot 2) (mC (.int 1))) mNil))))
    (sSeq (sSet 4 (mC .non))
    (sSeq (sFor (iF rng1 (mCons (mSlot 2) mNil)) (gNm 5) L__law_tests_1)
    (sRet (mSlot 4))))))

noncomputable def m__law_formula : MF := mDef 4 (
    (sSeq (sSet 3 (mCall 2 m__law_draw (mCons (mSlot 0) (mCons (mC (.int 10)) mNil))))
    (sSeq (sIf (mB (m2 dEq (mSlot 3) (mC (.int 0)))) (sRet (mCall 3 m__law_chain (mCons (mSlot 0) (mCons (mSlot 1) (mCons (m2 (dAdd false) (mC (.int 1)) (mCall 2 m__law_draw (mCons (mSlot 0) (mCons (mC (.int 50)) mNil)))) mNil))))) sNil)
    (sSeq (sIf (mB (m2 dEq (mSlot 3) (mC (.int 1)))) (sRet (mCall 3 m__law_tall (mCons (mSlot 0) (mCons (mSlot 1) (mCons (mCall 2 m__law_draw (mCons (mSlot 0) (mCons (mC (.int 21)) mNil))) mNil))))) sNil)
    (sSeq (sIf (mB (m2 dEq (mSlot 3) (mC (.int 2)))) (sRet (mTup (mCons (mC (.str "if")) (mCons (mCall 3 m__law_tests (mCons (mSlot 0) (mCons (mSlot 1) (mCons (m2 (dAdd false) (mC (.int 1)) (mCall 2 m__law_draw (mCons (mSlot 0) (mCons (mC (.int 22)) mNil)))) mNil)))) (mCons (mTup (mCons (mC (.str "number")) (mCons (mTup (mCons (mC (.int 0)) (mCons (mC (.int 1)) mNil))) mNil))) (mCons (mCall 2 m__law_reference (mCons (mSlot 0) (mCons (mSlot 1) mNil))) mNil)))))) sNil)
    (sRet (mCall 5 (m__law_wild 12) (mCons (mSlot 0) (mCons (mSlot 1) (mCons (mSlot 2) (mCons (m2 (dAdd false) (mC (.int 1)) (mCall 2 m__law_draw (mCons (mSlot 0) (mCons (mC (.int 8)) mNil)))) (mCons (m2 (dAdd false) (mC (.int 1)) (mCall 2 m__law_draw (mCons (mSlot 0) (mCons (mC (.int 28)) mNil)))) mNil))))))))))))

noncomputable def m__law_operands : MF := mDef 2 (
    (sRet (mLc false [1] (iE srcT (mSl false (mSlot 0) (moSome (mC (.int 1))) moNone)) (gNm 1) (mAnd (mT (mIsi "tuple" (mSlot 1))) (mT (mIsi "str" (m2 dIx (mSlot 1) (mC (.int 0)))))) (mSlot 1))))

noncomputable def m__law_depth : Nat → MF
  | 0 => fun _ _ => .stuck
  | n + 1 => mDef 2 (
    (sSeq (sIf (mB (m2 (dIn false) (m2 dIx (mSlot 0) (mC (.int 0))) (mLst false (mCons (mC (.str "number")) (mCons (mC (.str "choice")) (mCons (mC (.str "here")) (mCons (mC (.str "above")) (mCons (mC (.str "last")) (mCons (mC (.str "<")) (mCons (mC (.str "<=")) (mCons (mC (.str "=")) (mCons (mC (.str "<>")) (mCons (mC (.str ">=")) (mCons (mC (.str ">")) mNil)))))))))))))) (sRet (mC (.int 1))) sNil)
    (sRet (m2 (dAdd false) (mC (.int 1)) (mF gMaxL (mCons (mLc false [1] (iE srcL (mCall 1 m__law_operands (mCons (mSlot 0) mNil))) (gNm 1) mYes (mCall 1 (m__law_depth n) (mCons (mSlot 1) mNil))) mNil))))))

noncomputable def L__decimal_1 : MS := (sSeq (sAsg (mF gDivmod (mCons (m2 dMul (mSlot 3) (mC (.int 10))) (mCons (m2 dIx (mSlot 0) (mC (.int 1))) mNil))) (gTp 2 (gsCons (gNm 4) (gsCons (gNm 3) gsNil))))
    (sAug 1 dInc (mF gStr (mCons (mSlot 4) mNil))))
noncomputable def m__decimal : MF := mDef 5 (
    (sSeq (sAsg (mF gDivmod (mCons (m2 dIx (mSlot 0) (mC (.int 0))) (mCons (m2 dIx (mSlot 0) (mC (.int 1))) mNil))) (gTp 2 (gsCons (gNm 2) (gsCons (gNm 3) gsNil))))
    (sSeq (sSet 1 (mC (.str "")))
    (sSeq (sWhile (mT (mSlot 3)) L__decimal_1)
    (sSeq (sIf (mT (mSlot 1)) (sRet (mJs [(m1 fmtD (mSlot 2)), (mC (.str ".")), (m1 fmtD (mSlot 1))] Str.empty)) sNil)
    (sRet (mF gStr (mCons (mSlot 2) mNil))))))))

noncomputable def m__quoted : MF := mDef 1 (
    (sRet (mJs [(mC (.str "\"")), (m1 fmtD (mSlot 0)), (mC (.str "\""))] Str.empty)))

noncomputable def m__reference : MF := mDef 3 (
    (sSeq (sAsg (mSlot 0) (gTp 2 (gsCons (gNm 1) (gsCons (gNm 2) gsNil))))
    (sSeq (sIf (mB (m2 dEq (mSlot 1) (mC (.str "above")))) (sRet (mJs [(m1 fmtD (mSlot 2)), (mC (.str "[-1]"))] Str.empty)) sNil)
    (sSeq (sIf (mB (m2 dEq (mSlot 1) (mC (.str "last")))) (sRet (mJs [(mC (.str "last(")), (m1 fmtD (mSlot 2)), (mC (.str ")"))] Str.empty)) sNil)
    (sRet (mSlot 2))))))

noncomputable def m__compared_with : MF := mDef 1 (
    (sSeq (sIf (mT (mIsi "str" (mSlot 0))) (sRet (mCall 1 m__quoted (mCons (mSlot 0) mNil))) sNil)
    (sRet (mF gStr (mCons (mSlot 0) mNil)))))

mutual
noncomputable def m__condition : Nat → MF
  | 0 => fun _ _ => .stuck
  | n + 1 => mDef 2 (
    (sSeq (sSet 1 (m2 dIx (mSlot 0) (mC (.int 0))))
    (sSeq (sIf (mB (m2 (dIn false) (mSlot 1) (mC (.tup [(.str "<"), (.str "<="), (.str "="), (.str "<>"), (.str ">="), (.str ">")])))) (sRet (mJs [(m1 fmtD (mCall 1 m__reference (mCons (m2 dIx (mSlot 0) (mC (.int 1))) mNil))), (mC (.str " ")), (m1 fmtD (mSlot 1)), (mC (.str " ")), (m1 fmtD (mCall 1 m__compared_with (mCons (m2 dIx (mSlot 0) (mC (.int 2))) mNil)))] Str.empty)) sNil)
    (sSeq (sIf (mB (m2 dEq (mSlot 1) (mC (.str "not")))) (sRet (mJs [(mC (.str "not ")), (m1 fmtD (mCall 2 (m__term n) (mCons (m2 dIx (mSlot 0) (mC (.int 1))) (mCons (m2 (dAdd false) (mC (.tup [(.str "or")])) (mC (.tup [(.str "and")]))) mNil))))] Str.empty)) sNil)
    (sSeq (sIf (mB (m2 dEq (mSlot 1) (mC (.str "and")))) (sRet (mJs [(m1 fmtD (mCall 2 (m__term n) (mCons (m2 dIx (mSlot 0) (mC (.int 1))) (mCons (mC (.tup [(.str "or")])) mNil)))), (mC (.str " and ")), (m1 fmtD (mCall 2 (m__term n) (mCons (m2 dIx (mSlot 0) (mC (.int 2))) (mCons (m2 (dAdd false) (mC (.tup [(.str "or")])) (mC (.tup [(.str "and")]))) mNil))))] Str.empty)) sNil)
    (sRet (mJs [(m1 fmtD (mCall 1 (m__condition n) (mCons (m2 dIx (mSlot 0) (mC (.int 1))) mNil))), (mC (.str " or ")), (m1 fmtD (mCall 2 (m__term n) (mCons (m2 dIx (mSlot 0) (mC (.int 2))) (mCons (mC (.tup [(.str "or")])) mNil))))] Str.empty)))))))
noncomputable def m__term : Nat → MF
  | 0 => fun _ _ => .stuck
  | n + 1 => mDef 2 (
    (sSeq (sIf (mB (m2 (dIn false) (m2 dIx (mSlot 0) (mC (.int 0))) (mSlot 1))) (sRet (mJs [(mC (.str "(")), (m1 fmtD (mCall 1 (m__condition n) (mCons (mSlot 0) mNil))), (mC (.str ")"))] Str.empty)) sNil)
    (sRet (mCall 1 (m__condition n) (mCons (mSlot 0) mNil)))))
end

mutual
noncomputable def m_show_formula : Nat → MF
  | 0 => fun _ _ => .stuck
  | n + 1 => mDef 2 (
    (sSeq (sSet 1 (m2 dIx (mSlot 0) (mC (.int 0))))
    (sSeq (sIf (mB (m2 dEq (mSlot 1) (mC (.str "number")))) (sRet (mCall 1 m__decimal (mCons (m2 dIx (mSlot 0) (mC (.int 1))) mNil))) sNil)
    (sSeq (sIf (mB (m2 dEq (mSlot 1) (mC (.str "choice")))) (sRet (mCall 1 m__quoted (mCons (m2 dIx (mSlot 0) (mC (.int 1))) mNil))) sNil)
    (sSeq (sIf (mB (m2 (dIn false) (mSlot 1) (mC (.tup [(.str "here"), (.str "above"), (.str "last")])))) (sRet (mCall 1 m__reference (mCons (mSlot 0) mNil))) sNil)
    (sSeq (sIf (mB (m2 (dIn false) (mSlot 1) (mC (.tup [(.str "+"), (.str "-")])))) (sRet (mJs [(m1 fmtD (mCall 1 (m_show_formula n) (mCons (m2 dIx (mSlot 0) (mC (.int 1))) mNil))), (mC (.str " ")), (m1 fmtD (mSlot 1)), (mC (.str " ")), (m1 fmtD (mCall 2 (m__operand n) (mCons (m2 dIx (mSlot 0) (mC (.int 2))) (mCons (mC (.tup [(.str "+"), (.str "-")])) mNil))))] Str.empty)) sNil)
    (sSeq (sIf (mB (m2 dEq (mSlot 1) (mC (.str "*")))) (sRet (mJs [(m1 fmtD (mCall 2 (m__operand n) (mCons (m2 dIx (mSlot 0) (mC (.int 1))) (mCons (mC (.tup [(.str "+"), (.str "-")])) mNil)))), (mC (.str " * ")), (m1 fmtD (mCall 2 (m__operand n) (mCons (m2 dIx (mSlot 0) (mC (.int 2))) (mCons (m2 (dAdd false) (mC (.tup [(.str "+"), (.str "-")])) (mC (.tup [(.str "*"), (.str "/")]))) mNil))))] Str.empty)) sNil)
    (sSeq (sIf (mB (m2 dEq (mSlot 1) (mC (.str "/")))) (sRet (mJs [(m1 fmtD (mCall 2 (m__operand n) (mCons (m2 dIx (mSlot 0) (mC (.int 1))) (mCons (mC (.tup [(.str "+"), (.str "-")])) mNil)))), (mC (.str " / ")), (m1 fmtD (mCall 1 m__decimal (mCons (m2 dIx (mSlot 0) (mC (.int 2))) mNil)))] Str.empty)) sNil)
    (sSeq (sIf (mB (m2 dEq (mSlot 1) (mC (.str "neg")))) (sRet (mJs [(mC (.str "-")), (m1 fmtD (mCall 2 (m__operand n) (mCons (m2 dIx (mSlot 0) (mC (.int 1))) (mCons (m2 (dAdd false) (mC (.tup [(.str "+"), (.str "-")])) (mC (.tup [(.str "*"), (.str "/")]))) mNil))))] Str.empty)) sNil)
    (sSeq (sIf (mB (m2 dEq (mSlot 1) (mC (.str "if")))) (sRet (mJs [(mC (.str "if(")), (m1 fmtD (mCall 1 (m__condition 113) (mCons (m2 dIx (mSlot 0) (mC (.int 1))) mNil))), (mC (.str ", ")), (m1 fmtD (mCall 1 (m_show_formula n) (mCons (m2 dIx (mSlot 0) (mC (.int 2))) mNil))), (mC (.str ", ")), (m1 fmtD (mCall 1 (m_show_formula n) (mCons (m2 dIx (mSlot 0) (mC (.int 3))) mNil))), (mC (.str ")"))] Str.empty)) sNil)
    (sRet (mJs [(m1 fmtD (mSlot 1)), (mC (.str "(")), (m1 fmtD (mCall 1 (m_show_formula n) (mCons (m2 dIx (mSlot 0) (mC (.int 1))) mNil))), (mC (.str ")"))] Str.empty))))))))))))
noncomputable def m__operand : Nat → MF
  | 0 => fun _ _ => .stuck
  | n + 1 => mDef 2 (
    (sSeq (sIf (mB (m2 (dIn false) (m2 dIx (mSlot 0) (mC (.int 0))) (mSlot 1))) (sRet (mJs [(mC (.str "(")), (m1 fmtD (mCall 1 (m_show_formula n) (mCons (mSlot 0) mNil))), (mC (.str ")"))] Str.empty)) sNil)
    (sRet (mCall 1 (m_show_formula n) (mCons (mSlot 0) mNil)))))
end

noncomputable def L__law_show_number_1 : MS := (sIf (mB (m2 (dCmp fun i j => decide (j < i)) (mSlot 2) (mC (.int 0)))) (sSeq (sSet 1 (m2 (dAdd false) (mSlot 1) (mF gStr (mCons (m2 dDiv (m2 dMul (mSlot 2) (mC (.int 10))) (m2 dIx (mSlot 0) (mC (.int 1)))) mNil))))
    (sSet 2 (m2 dMod (mF gInt (mCons (m2 dMul (mSlot 2) (mC (.int 10))) mNil)) (m2 dIx (mSlot 0) (mC (.int 1)))))) sNil)
noncomputable def m__law_show_number : MF := mDef 4 (
    (sSeq (sSet 1 (mF gStr (mCons (m2 dDiv (m2 dIx (mSlot 0) (mC (.int 0))) (m2 dIx (mSlot 0) (mC (.int 1)))) mNil)))
    (sSeq (sSet 2 (m2 dMod (mF gInt (mCons (m2 dIx (mSlot 0) (mC (.int 0))) mNil)) (m2 dIx (mSlot 0) (mC (.int 1)))))
    (sSeq (sIf (mB (m2 (dCmp fun i j => decide (j < i)) (mSlot 2) (mC (.int 0)))) (sSet 1 (m2 (dAdd false) (mSlot 1) (mC (.str ".")))) sNil)
    (sSeq (sFor (iF rng1 (mCons (mC (.int 9)) mNil)) (gNm 3) L__law_show_number_1)
    (sRet (mSlot 1)))))))

mutual
noncomputable def m__law_show_test : Nat → MF
  | 0 => fun _ _ => .stuck
  | n + 1 => mDef 4 (
    (sSeq (sSet 1 (m2 dIx (mSlot 0) (mC (.int 0))))
    (sSeq (sIf (mB (m2 dEq (mSlot 1) (mC (.str "not")))) (sSeq (sIf (mB (m2 (dIn false) (m2 dIx (m2 dIx (mSlot 0) (mC (.int 1))) (mC (.int 0))) (mLst false (mCons (mC (.str "and")) (mCons (mC (.str "or")) mNil))))) (sRet (m2 (dAdd false) (m2 (dAdd false) (mC (.str "not (")) (mCall 1 (m__law_show_test n) (mCons (m2 dIx (mSlot 0) (mC (.int 1))) mNil))) (mC (.str ")")))) sNil)
    (sRet (m2 (dAdd false) (mC (.str "not ")) (mCall 1 (m__law_show_test n) (mCons (m2 dIx (mSlot 0) (mC (.int 1))) mNil))))) sNil)
    (sSeq (sIf (mB (m2 (dIn false) (mSlot 1) (mLst false (mCons (mC (.str "and")) (mCons (mC (.str "or")) mNil))))) (sSeq (sSet 2 (mCall 1 (m__law_show_test n) (mCons (m2 dIx (mSlot 0) (mC (.int 1))) mNil)))
    (sSeq (sSet 3 (mCall 1 (m__law_show_test n) (mCons (m2 dIx (mSlot 0) (mC (.int 2))) mNil)))
    (sSeq (sIf (mAnd (mB (m2 dEq (mSlot 1) (mC (.str "and")))) (mB (m2 dEq (m2 dIx (m2 dIx (mSlot 0) (mC (.int 1))) (mC (.int 0))) (mC (.str "or"))))) (sSet 2 (m2 (dAdd false) (m2 (dAdd false) (mC (.str "(")) (mSlot 2)) (mC (.str ")")))) sNil)
    (sSeq (sIf (mOr (mB (m2 dEq (m2 dIx (m2 dIx (mSlot 0) (mC (.int 2))) (mC (.int 0))) (mC (.str "or")))) (mAnd (mB (m2 dEq (mSlot 1) (mC (.str "and")))) (mB (m2 dEq (m2 dIx (m2 dIx (mSlot 0) (mC (.int 2))) (mC (.int 0))) (mC (.str "and")))))) (sSet 3 (m2 (dAdd false) (m2 (dAdd false) (mC (.str "(")) (mSlot 3)) (mC (.str ")")))) sNil)
    (sRet (m2 (dAdd false) (m2 (dAdd false) (m2 (dAdd false) (m2 (dAdd false) (mSlot 2) (mC (.str " "))) (mSlot 1)) (mC (.str " "))) (mSlot 3))))))) sNil)
    (sSeq (sIf (mT (mIsi "str" (m2 dIx (mSlot 0) (mC (.int 2))))) (sRet (m2 (dAdd false) (m2 (dAdd false) (m2 (dAdd false) (m2 (dAdd false) (m2 (dAdd false) (mCall 1 (m__law_show n) (mCons (m2 dIx (mSlot 0) (mC (.int 1))) mNil)) (mC (.str " "))) (mSlot 1)) (mC (.str " \""))) (m2 dIx (mSlot 0) (mC (.int 2)))) (mC (.str "\"")))) sNil)
    (sRet (m2 (dAdd false) (m2 (dAdd false) (m2 (dAdd false) (m2 (dAdd false) (mCall 1 (m__law_show n) (mCons (m2 dIx (mSlot 0) (mC (.int 1))) mNil)) (mC (.str " "))) (mSlot 1)) (mC (.str " "))) (mF gStr (mCons (m2 dIx (mSlot 0) (mC (.int 2))) mNil)))))))))
noncomputable def m__law_show : Nat → MF
  | 0 => fun _ _ => .stuck
  | n + 1 => mDef 5 (
    (sSeq (sSet 1 (m2 dIx (mSlot 0) (mC (.int 0))))
    (sSeq (sIf (mB (m2 dEq (mSlot 1) (mC (.str "number")))) (sRet (mCall 1 m__law_show_number (mCons (m2 dIx (mSlot 0) (mC (.int 1))) mNil))) sNil)
    (sSeq (sIf (mB (m2 dEq (mSlot 1) (mC (.str "choice")))) (sRet (m2 (dAdd false) (m2 (dAdd false) (mC (.str "\"")) (m2 dIx (mSlot 0) (mC (.int 1)))) (mC (.str "\"")))) sNil)
    (sSeq (sIf (mB (m2 dEq (mSlot 1) (mC (.str "here")))) (sRet (m2 dIx (mSlot 0) (mC (.int 1)))) sNil)
    (sSeq (sIf (mB (m2 dEq (mSlot 1) (mC (.str "above")))) (sRet (m2 (dAdd false) (m2 dIx (mSlot 0) (mC (.int 1))) (mC (.str "[-1]")))) sNil)
    (sSeq (sIf (mB (m2 dEq (mSlot 1) (mC (.str "last")))) (sRet (m2 (dAdd false) (m2 (dAdd false) (mC (.str "last(")) (m2 dIx (mSlot 0) (mC (.int 1)))) (mC (.str ")")))) sNil)
    (sSeq (sIf (mB (m2 dEq (mSlot 1) (mC (.str "if")))) (sSeq (sSet 4 (m2 (dAdd false) (m2 (dAdd false) (mCall 1 (m__law_show n) (mCons (m2 dIx (mSlot 0) (mC (.int 2))) mNil)) (mC (.str ", "))) (mCall 1 (m__law_show n) (mCons (m2 dIx (mSlot 0) (mC (.int 3))) mNil))))
    (sRet (m2 (dAdd false) (m2 (dAdd false) (m2 (dAdd false) (m2 (dAdd false) (mC (.str "if(")) (mCall 1 (m__law_show_test n) (mCons (m2 dIx (mSlot 0) (mC (.int 1))) mNil))) (mC (.str ", "))) (mSlot 4)) (mC (.str ")"))))) sNil)
    (sSeq (sSet 2 (mCall 1 (m__law_show n) (mCons (m2 dIx (mSlot 0) (mC (.int 1))) mNil)))
    (sSeq (sIf (mB (m2 (dIn false) (mSlot 1) (mLst false (mCons (mC (.str "floor")) (mCons (mC (.str "sum")) mNil))))) (sRet (m2 (dAdd false) (m2 (dAdd false) (m2 (dAdd false) (mSlot 1) (mC (.str "("))) (mSlot 2)) (mC (.str ")")))) sNil)
    (sSeq (sIf (mOr (mAnd (mB (m2 (dIn false) (m2 dIx (m2 dIx (mSlot 0) (mC (.int 1))) (mC (.int 0))) (mLst false (mCons (mC (.str "+")) (mCons (mC (.str "-")) mNil))))) (mB (m2 (dIn false) (mSlot 1) (mLst false (mCons (mC (.str "*")) (mCons (mC (.str "/")) (mCons (mC (.str "neg")) mNil))))))) (mAnd (mB (m2 (dIn false) (m2 dIx (m2 dIx (mSlot 0) (mC (.int 1))) (mC (.int 0))) (mLst false (mCons (mC (.str "*")) (mCons (mC (.str "/")) mNil))))) (mB (m2 dEq (mSlot 1) (mC (.str "neg")))))) (sSet 2 (m2 (dAdd false) (m2 (dAdd false) (mC (.str "(")) (mSlot 2)) (mC (.str ")")))) sNil)
    (sSeq (sIf (mB (m2 dEq (mSlot 1) (mC (.str "neg")))) (sRet (m2 (dAdd false) (mC (.str "-")) (mSlot 2))) sNil)
    (sSeq (sIf (mB (m2 dEq (mSlot 1) (mC (.str "/")))) (sRet (m2 (dAdd false) (m2 (dAdd false) (mSlot 2) (mC (.str " / "))) (mCall 1 m__law_show_number (mCons (m2 dIx (mSlot 0) (mC (.int 2))) mNil)))) sNil)
    (sSeq (sSet 3 (mCall 1 (m__law_show n) (mCons (m2 dIx (mSlot 0) (mC (.int 2))) mNil)))
    (sSeq (sIf (mOr (mB (m2 (dIn false) (m2 dIx (m2 dIx (mSlot 0) (mC (.int 2))) (mC (.int 0))) (mLst false (mCons (mC (.str "+")) (mCons (mC (.str "-")) mNil))))) (mAnd (mB (m2 dEq (mSlot 1) (mC (.str "*")))) (mB (m2 (dIn false) (m2 dIx (m2 dIx (mSlot 0) (mC (.int 2))) (mC (.int 0))) (mLst false (mCons (mC (.str "*")) (mCons (mC (.str "/")) mNil))))))) (sSet 3 (m2 (dAdd false) (m2 (dAdd false) (mC (.str "(")) (mSlot 3)) (mC (.str ")")))) sNil)
    (sRet (m2 (dAdd false) (m2 (dAdd false) (m2 (dAdd false) (m2 (dAdd false) (mSlot 2) (mC (.str " "))) (mSlot 1)) (mC (.str " "))) (mSlot 3))))))))))))))))))
end
end Py

set_option Elab.async false
set_option linter.all false
set_option maxRecDepth 100000
set_option maxHeartbeats 1000000
/-! exceptions: raised, caught, asked -/
namespace Py
open PySem PySem.Spec PyProof.Rows L2

/-! ### raise -/
/-- an own error class without a class body of its own -/
structure EC (K : PySem.W.Frag) (mg : Str → Option Value) (x : Str) where
  C : Addr
  g : mg x = some (.ref C)
  k : PySem.W.keepIn K (.ref C) = true
  q : PySem.W.excIn K C [.type "ValueError", .type "Exception", .type "BaseException", .type "object"] "ValueError.__new__" = true
  b : PySem.W.subIn K (.ref C) (.type "BaseException") = some true
  t : PySem.W.typeIn K (.ref C) = some (.type "type")
def sRaise (x : Str) (env : Env) (S : Store) : SR := .exc ⟨x, []⟩ env S
/-- the fields in the order in which they were set, the last one first -/
def sRaiseI (x : Str) (fs : List Str) (mas : MA) (env : Env) (S : Store) : SR := sBnd (mas env S) env fun ds S' => if ds.length = fs.length then .exc ⟨x, (fs.zip ds).reverse⟩ env S' else .stuck
section
variable {X : Cx} {W : WX} {p p2 pos pos0 : Pos} {x m : Str} {j : Nat}
theorem ss_raise (hc : X.calm = true) (tk : L2N.Takes X W) (T : EC X.K X.mg x) (hg : Gl X x := by rfl) (hdb : (x == ("__debug__" : Str)) = false := by decide) : SS X W (.Raise (some (.Call (.Name x p) [.Constant (.str m) j p2] [] pos)) none pos0) (sRaise x) :=
  PS.imp (L2N.ps_raise hc tk (L2N.pmk_own PySem.F.excBase_ValueError T.q T.g T.k (raises_own T.b T.t) hg hdb)) fun D σ H ⟨Z, ρ, env, S, a, q⟩ => q ρ H σ (.ref T.C) none Ext.refl a ⟨T.C, T.g, rfl, rfl⟩

/-- an own error class whose __init__ sets its parameters as fields -/
structure EI (K : PySem.W.Frag) (mg : Str → Option Value) (x : Str) (fs : List Str) where
  C : Addr
  f : Addr
  fd : FuncData
  g : mg x = some (.ref C)
  o : OexC K C
  i : PySem.W.findIn K (.ref C) "__init__" = some (some (.ref f))
  ty : PySem.W.typeIn K (.ref f) = some (.type "function")
  no : ∀ n ∈ fs, PySem.W.findIn K (.ref C) n = some none
/-- what __init__ does: sets two fields -/
def spI2 (K : PySem.W.Frag) (C : Addr) (f1 f2 : Str) : Sp := fun vs H Q E => ∃ (a : Addr) (v1 v2 : V), vs = [.ref a, v1, v2] ∧ OexC K C ∧ PySem.W.findIn K (.ref C) f1 = some none ∧ PySem.W.findIn K (.ref C) f2 = some none ∧ H a = some (exo a C none) ∧
  ∀ dx, H dx = none → dx ≠ a → Q .non (upd (upd (upd H dx (exd dx [(f1, v1)])) a (exo a C (some dx))) dx (exd dx [(f2, v2), (f1, v1)]))
theorem pmk_oexN {e : Expr} {es : List Expr} {ta : TA} {CX : CXT} {C fI : Addr} {k : Nat} {fd : FuncData} {ps : List Str} {sp : Sp} (T : OexC X.K C) (iC : PySem.W.findIn X.K (.ref C) "__init__" = some (some (.ref fI))) (tI : PySem.W.typeIn X.K (.ref fI) = some (.type "function"))
    (F1 : FnOk X.prog X.w X.K X.mg X.base CX k fI fd ps sp) (hr : Room (k + 1) X.A) (hb : Binds X.K fd ps []) (hx : Passes CX X (fun _ _ _ => False)) (hg : Gl X x) (hm : X.mg x = some (.ref C)) (ha : PA X (e :: es) ta)
    (hdb : (x == ("__debug__" : Str)) = false := by decide) (he : starEach (e :: es) X.env = (false, eval e X.env) :: starEach es X.env := by rfl) (hpl : (backTo pos (starEach es X.env)).any (·.1) = false := by rfl) :
    L2N.PMk X (.Call (.Name x p) (e :: es) [] pos) (tMkO C sp [] ta) := by
  intro pins s σ H Q I h
  obtain ⟨nm, q, N, bs, bm, sn, sub, ab, col, dd, k0, k1, k2, k3, k5, hC, hbm⟩ := T.cls
  refine wpAny_Call_Name_kw (ld_glob I hg hm ?_ hdb)
  refine PySem.W.callWith_K (h₀ := X.base) I.ok.mod.kin T.kC (thn (ha.run pos pins s σ H _ I h) fun us s1 ⟨vs, H1, I1, r1, hz, q1⟩ => ⟨I1.kIn, ?_⟩) he hpl
  show wpAny _ _ (call (.ref C) us) _ _ _
  obtain ⟨hp, g, dr, tk, os⟩ := s1
  have hsz : hp.objs.size ≤ hp.objs.size + 1 := Nat.le_succ _
  have hn : H1 (hp.objs.size + 1) = none := I1.hok.fresh hsz
  have hq := q1 (hp.objs.size + 1) hn
  rw [List.append_nil] at hq
  have kk : ∀ b o, hp.get? b = some o → ((hp.push (PySem.W.kdv_tup us)).push (PySem.HandSPX.excO C hp.objs.size)).get? b = some o := fun b o e => Heap.get?_push_of_some _ (Heap.get?_push_of_some _ e)
  have hget : ((hp.push (PySem.W.kdv_tup us)).push (PySem.HandSPX.excO C hp.objs.size)).get? (hp.objs.size + 1) = some (PySem.HandSPX.excO C hp.objs.size) := by heap_get
  have I2 : Inv X pins σ (upd H1 (hp.objs.size + 1) (exo (hp.objs.size + 1) C none)) ⟨(hp.push (PySem.W.kdv_tup us)).push (PySem.HandSPX.excO C hp.objs.size), g, dr, tk, os⟩ :=
    I1.laid (t' := tk) (a := hp.objs.size + 1) (o := exo (hp.objs.size + 1) C none) (h' := (hp.push (PySem.W.kdv_tup us)).push (PySem.HandSPX.excO C hp.objs.size)) kk hsz (exo_ok hget)
  have r2 : Vals (V.ref (hp.objs.size + 1) :: vs) (Value.ref (hp.objs.size + 1) :: us) := .cons rfl r1
  have hl : (Value.ref (hp.objs.size + 1) :: us ++ []).length = ps.length := by
    have e := r2.length
    rw [F1.len _ _ _ _ hq] at e
    rw [List.append_nil]
    exact e.symm
  have hus : us.length ≤ sizeLine := by
    rw [← Paired.length r1, sizeLine_eq]
    omega
  have bb := hb _ (Value.ref (hp.objs.size + 1) :: us) I2.kIn hl
  rw [List.append_nil] at bb
  refine wpAny_call (PySem.HandSPX.call_own F.excBase_ValueError (fun Y => PySem.HandSPX.refsVE_contains Y bm hbm) (I1.kIn _ _ hC) (PySem.W.looks_findIn I1.kIn iC) (fun self => PySem.W.bind_fn I1.kIn self tI) hus
    (codeAny_mono (F1.run _ X.stack _ _ ⟨Value.ref (hp.objs.size + 1) :: us, []⟩ (Value.ref (hp.objs.size + 1) :: us) _ _ (fun _ _ _ => False) (hr.make C us []) (I2.env0.make C us []) bb r2 hq) fun r s' hq' => ?_))
  cases r with
  | error er => exact hx pins σ _ _ er s' I2 hq'
  | ok fl =>
    cases fl with
    | ret u =>
      obtain ⟨v, H2, os2, bare2, un2, hok2, rv, ev, d, fs, ea, ed, hd1, q2⟩ := hq'
      subst ev
      obtain ⟨h2, g2, d2, t2, os'⟩ := s'
      obtain ⟨t0, G, J, kG, ge, hoe, na⟩ := mk_end0 (d2 := d2) (t2 := t2) I1 hsz kk un2 hok2 os2 bare2 ea ed hd1
      exact ⟨rv, _, _, _, ⟨G, g2, d2, t2, os'⟩, _, .ref C, some d, rfl, J, kG, ge, hoe, ⟨rfl, rfl, fun vs e => by cases e; rfl⟩, rfl, rfl, na, rfl, bare2, raises_own T.exC T.tyC, q2⟩
    | next => exact False.elim hq'
    | brk => exact False.elim hq'
    | cont => exact False.elim hq'
theorem passN {X : Cx} : Passes (L2N.CX X.prog X.w) X (fun _ _ _ => False) := fun _ _ _ _ _ _ _ h => by
  obtain ⟨_, _, _, _, _, _, _, _, _, _, _, _, z⟩ := h
  exact z.elim
theorem ss_raiseI2 {e1 e2 : Expr} {f1 f2 : Str} {mas : MA} {k : Nat} {ps : List Str} (hc : X.calm = true) (hr : Room (k + 1) X.A) (tk : L2N.Takes X W) (T : EI X.K X.mg x [f1, f2]) (F : FnOk X.prog X.w X.K X.mg X.base (L2N.CX X.prog X.w) k T.f T.fd ps (spI2 X.K T.C f1 f2)) (hb : Binds X.K T.fd ps [])
    (ha : SA X W [e1, e2] mas) (hg : Gl X x := by rfl) (hdb : (x == ("__debug__" : Str)) = false := by decide) (he : starEach [e1, e2] X.env = (false, eval e1 X.env) :: starEach [e2] X.env := by rfl) (hpl : (backTo pos (starEach [e2] X.env)).any (·.1) = false := by rfl) {pos' : Pos} :
    SS X W (.Raise (some (.Call (.Name x p) [e1, e2] [] pos)) none pos') (sRaiseI x [f1, f2] mas) := by
  refine PS.imp (L2N.ps_raise hc tk (pmk_oexN T.o T.i T.ty F hr hb passN hg T.g ha hdb he hpl)) fun D σ H ⟨Z, ρ, env, S, a, q⟩ => ?_
  refine ⟨Z, ρ, env, S, a, (GS.bnd a q).imp fun ds S1 ρ1 H1 e s q1 vs rs => ?_⟩
  match ds, q1, rs with
  | [d1, d2], q1, rs =>
    obtain ⟨v1, v2, rfl, r1, r2⟩ := rvs2 rs
    refine ⟨by show 2 ≤ 1000; decide, fun b hb => ⟨b, v1, v2, rfl, T.o, T.no f1 (by simp), T.no f2 (by simp), upd_same, fun dx hdx nb => ⟨rfl, dx, [(f2, v2), (f1, v1)], ?_, upd_same, ?_, ?_⟩⟩⟩
    · rw [upd_ne (Ne.symm nb), upd_same]
    · rw [upd_ne nb] at hdx
      exact hdx
    · rw [upd_ne nb] at hdx
      have eq : upd (del (upd (upd (upd (upd H1 b (exo b T.C none)) dx (exd dx [(f1, v1)])) b (exo b T.C (some dx))) dx (exd dx [(f2, v2), (f1, v1)])) b) dx (.xd [(f2, v2), (f1, v1)]) = upd H1 dx (.xd [(f2, v2), (f1, v1)]) := by
        funext c
        by_cases h1 : c = dx
        · rw [h1, upd_same, upd_same]
        · rw [upd_ne h1, upd_ne h1]
          by_cases h2 : c = b
          · rw [h2, del_same, hb]
          · rw [del_ne h2, upd_ne h1, upd_ne h2, upd_ne h1, upd_ne h2]
      rw [eq]
      have q1 : GS X W Z D ρ1 H1 (.exc ⟨x, ([f1, f2].zip [d1, d2]).reverse⟩ env S1) := q1
      have ee := ext_upd (o := .xd [(f2, v2), (f1, v1)]) s hdx
      refine q1 ρ1 _ σ (.ref T.C) (some dx) ee (a.ext (e.trans ee) (s.fresh hdx)) ⟨T.C, T.g, rfl, [(f2, v2), (f1, v1)], upd_same, rfl, ?_⟩
      exact RVs.cons.mpr ⟨v2, [v1], rfl, r2.ext ee, RVs.one (r1.ext ee)⟩
  | [], q1, rs => exact q1.elim
  | [_], q1, rs => exact q1.elim
  | _ :: _ :: _ :: _, q1, rs => exact (show False from by
      have q1 : GS X W Z D ρ1 H1 (if _ = 2 then _ else .stuck) := q1
      rw [if_neg (by simp)] at q1
      exact q1).elim
end

/-! ### the handled exception leaves no trace -/
mutual
def noHot : D → Bool
  | .hot _ _ _ => false
  | .tup ds => noHots ds
  | .rol ds => noHots ds
  | .frz ds => noHots ds
  | _ => true
def noHots : List D → Bool
  | [] => true
  | d :: ds => noHot d && noHots ds
end
section
variable {K : PySem.W.Frag} {mg : Str → Option Value} {ρ ρ' : List Addr} {Z Z' : Zt} {H H' : Hp}
mutual
theorem noHot_of (hz : Z.hot = none) : ∀ {d : D} {v : V}, RV K ρ Z H d v → noHot d = true
  | .non, _, _ => by simp [noHot]
  | .bl _, _, _ => by simp [noHot]
  | .int _, _, _ => by simp [noHot]
  | .str _, _, _ => by simp [noHot]
  | .obj _, _, _ => by simp [noHot]
  | .tup ds, _, h => by
    obtain ⟨a, xs, _, _, h3⟩ := RV.tup.mp h
    rw [noHot]
    exact noHots_of hz h3
  | .rol ds, _, h => by
    obtain ⟨a, xs, _, _, h3⟩ := RV.rol.mp h
    rw [noHot]
    exact noHots_of hz h3
  | .frz ds, _, h => by
    obtain ⟨a, xs, _, _, h3⟩ := RV.frz.mp h
    rw [noHot]
    exact noHots_of hz h3
  | .hot _ _ _, _, h => by
    obtain ⟨h, _, e, _⟩ := RV.hot.mp h
    rw [hz] at e
    cases e
theorem noHots_of (hz : Z.hot = none) : ∀ {ds : List D} {vs : List V}, RVs K ρ Z H ds vs → noHots ds = true
  | [], _, _ => by simp [noHots]
  | d :: ds, _, h => by
    obtain ⟨x, r, rfl, h2, h3⟩ := RVs.cons.mp h
    rw [noHots, noHot_of hz h2, noHots_of hz h3]
    rfl
end
mutual
theorem RV.cold (e : Z'.zs = Z.zs) : ∀ {d : D} {v : V}, noHot d = true → RV K ρ Z H d v → RV K ρ Z' H d v
  | .non, _, _, h => RV.non.mpr (RV.non.mp h)
  | .bl _, _, _, h => RV.bl.mpr (RV.bl.mp h)
  | .int _, _, _, h => RV.int.mpr (RV.int.mp h)
  | .str _, _, _, h => RV.str.mpr (RV.str.mp h)
  | .obj _, _, _, h => RV.obj.mpr (RV.obj.mp h)
  | .tup ds, _, n, h => by
    obtain ⟨a, xs, h1, h2, h3⟩ := RV.tup.mp h
    rw [noHot] at n
    exact RV.tup.mpr ⟨a, xs, h1, h2, RVs.cold e n h3⟩
  | .rol ds, _, n, h => by
    obtain ⟨a, xs, h1, h2, h3⟩ := RV.rol.mp h
    rw [noHot] at n
    exact RV.rol.mpr ⟨a, xs, h1, ⟨h2.1, h2.2.1, fun z => h2.2.2 (by show a ∈ Z.zs; rw [← e]; exact z)⟩, RVs.cold e n h3⟩
  | .frz ds, _, n, h => by
    obtain ⟨a, xs, h1, h2, h3⟩ := RV.frz.mp h
    rw [noHot] at n
    exact RV.frz.mpr ⟨a, xs, h1, h2, RVs.cold e n h3⟩
  | .hot _ _ _, _, n, _ => by simp [noHot] at n
theorem RVs.cold (e : Z'.zs = Z.zs) : ∀ {ds : List D} {vs : List V}, noHots ds = true → RVs K ρ Z H ds vs → RVs K ρ Z' H ds vs
  | [], _, _, h => RVs.nil.mpr (RVs.nil.mp h)
  | d :: ds, _, n, h => by
    obtain ⟨x, r, rfl, h2, h3⟩ := RVs.cons.mp h
    rw [noHots, Bool.and_eq_true] at n
    exact RVs.cons.mpr ⟨x, r, rfl, RV.cold e n.1 h2, RVs.cold e n.2 h3⟩
end
def noHotO : Ob → Bool
  | .lst ds => noHots ds
  | .dct kvs => noHots (kvs.map (·.2))
  | .ins _ fs => noHots (fs.map (·.2))
theorem RO.cold {a : Addr} {o : Ob} (e : Z'.zs = Z.zs) (n : noHotO o = true) (h : RO K ρ Z H mg a o) : RO K ρ Z' H mg a o := by
  cases o with
  | lst ds => obtain ⟨xs, h1, h2⟩ := h; exact ⟨xs, h1, h2.cold e n⟩
  | dct ds => obtain ⟨xs, h1, h2⟩ := h; exact ⟨xs, h1, h2.1, h2.2.cold e n⟩
  | ins C fs => obtain ⟨Ca, dx, gs, h0, h1, h2⟩ := h; exact ⟨Ca, dx, gs, h0, h1, h2.1, h2.2.cold e n⟩
theorem RO.noHot {a : Addr} {o : Ob} (hz : Z.hot = none) (h : RO K ρ Z H mg a o) : noHotO o = true := by
  cases o with
  | lst ds => obtain ⟨xs, h1, h2⟩ := h; exact noHots_of hz h2
  | dct ds => obtain ⟨xs, h1, h2⟩ := h; exact noHots_of hz h2.2
  | ins C fs => obtain ⟨Ca, dx, gs, h0, h1, h2⟩ := h; exact noHots_of hz h2.2
/-- with an exception at hand the store stands as before -/
theorem RS.warm {S : Store} (e : Z'.zs = Z.zs) (hz : Z.hot = none) (h : RS K ρ Z H mg S) : RS K ρ Z' H mg S :=
  ⟨h.len, h.inj, fun n a o h1 h2 => (h.obj n a o h1 h2).cold e ((h.obj n a o h1 h2).noHot hz), fun a q => h.hid a (by show a ∈ Z.zs; rw [← e]; exact q)⟩
/-- .. and, where nothing of it was changed, without one again -/
theorem RS.cool {S : Store} (e : Z'.zs = Z.zs) (hz : Z.hot = none) (h : RS K ρ Z H mg S) (h' : RS K ρ' Z' H' mg S) : RS K ρ' Z H' mg S :=
  ⟨h'.len, h'.inj, fun n a o h1 h2 => (h'.obj n a o h1 h2).cold e.symm (by
      have hn : n < ρ.length := by rw [h.len]; exact (List.getElem?_eq_some_iff.mp h2).1
      exact (h.obj n ρ[n] o (List.getElem?_eq_getElem hn) h2).noHot hz), fun a q => h'.hid a (by show a ∈ Z'.zs; rw [e]; exact q)⟩
theorem RE.warm {env : Env} {σ : L2.St} (e : Z'.zs = Z.zs) (hz : Z.hot = none) (h : RE K ρ Z H env σ) : RE K ρ Z' H env σ :=
  ⟨h.len, fun i d q => let ⟨v, a, b⟩ := h.val i d q; ⟨v, a, b.cold e (noHot_of hz b)⟩⟩
end

/-! ### try: body, except C as n: suite -/
open Classical in
/-- a suite says a plain thing and leaves the store alone -/
noncomputable def sHot (s : Store) (r : SR) : SR := match r with
  | .rt d s' => if noHot d = true ∧ s' = s then .rt d s' else .stuck
  | _ => .stuck
noncomputable def sTry (i : Nat) (caught : List Str) (a b : MS) (env : Env) (S : Store) : SR := match a env S with
  | .exc x e s => if x.cls ∈ caught then sHot s (b (e.set i (some (.hot x.cls (x.fs.map (·.1)) (x.fs.map (·.2))))) s) else .stuck
  | r => r
section
variable {X : Cx} {W Wout : WX} {x n : Str} {c : Value} {i : Nat} {body suite : List Stmt} {b₀ : Stmt} {np pos pos' : Pos} {ma mb : MS} {caught : List Str}
theorem ss_try (i : Nat) (caught : List Str) (hcalm : X.calm = true) (hs : X.stack = X.env :: X.outer) (hf : X.env.frame = some X.env.locals) (hN : X.N.Nodup) (hi : X.N[i]? = some n) (hln : X.env.kindOf n = some .local) (hc : Names X x c) (tk : L2N.Takes X Wout)
    (hk : ∀ C ∈ caught, ∀ Ca, X.mg C = some (.ref Ca) → PySem.W.exmOne X.K (.ref Ca) c = some true)
    (hb : ∀ (W : WX) (pn : List (Addr × Obj)) (xe : Value → Shared → Prop), L2N.Takes (X.tr pn xe) W → PassesOwn (model X.prog X.w) X.A X.env xe → SSs (X.tr pn xe) W body ma)
    (hsu : ∀ (a : Addr) (oe : Obj) (cls : Value) (d : Option Addr) (pn : List (Addr × Obj)), L2N.Zn cls d oe → (∃ vs, oe.data = .fields vs) → SSs (X.suite a ((a, oe) :: pn)) W0 (b₀ :: suite) mb) :
    SS X Wout (.Try body [.ExceptHandler (some (.Name x np)) (some n) (b₀ :: suite) pos'] [] [] pos) (sTry i caught ma mb) := by
  refine PS.imp (L2N.ps_try_as (i := i) (tb := fun W => rdS X W ma) (ts := fun a cls d D σ H => ∀ oe pn, L2N.Zn cls d oe → (∃ vs, oe.data = .fields vs) → rdS (X.suite a ((a, oe) :: pn)) W0 mb D σ H) hs hf hN hi hln hc tk
    (fun W pn xe tk hp => PSs.imp (hb W pn xe tk hp) fun D σ H ⟨Z, ρ, env, S, a, q⟩ => ⟨Z, ρ, env, S, ⟨a.rs, a.re, .none hcalm (a.hot.cold hcalm)⟩, ?_⟩)
    (fun a oe cls d pn hz hd => PSs.imp (hsu a oe cls d pn hz hd) fun D σ H q => q oe pn hz hd)) fun D σ H ⟨Z, ρ, env, S, a, q⟩ => ⟨Z, ρ, env, S, a, ?_⟩
  · have hz := a.hot.cold hcalm
    cases er : ma env S with
    | nx e s => rw [er] at q; exact fun ρ' H' σ' ex aa => q ρ' H' σ' ex ⟨aa.rs, aa.re, .none hcalm hz⟩
    | bk e s => rw [er] at q; exact fun ρ' H' σ' ex aa => q ρ' H' σ' ex ⟨aa.rs, aa.re, .none hcalm hz⟩
    | ct e s => rw [er] at q; exact fun ρ' H' σ' ex aa => q ρ' H' σ' ex ⟨aa.rs, aa.re, .none hcalm hz⟩
    | rt d s => rw [er] at q; exact q
    | exc x e s => rw [er] at q; exact fun ρ' H' σ' c o ex aa rx => q ρ' H' σ' c o ex ⟨aa.rs, aa.re, .none hcalm hz⟩ rx
    | stuck => rw [er] at q; exact q
  · have hz := a.hot.cold hcalm
    have q : GS X Wout Z D ρ H (sTry i caught ma mb env S) := q
    unfold sTry at q
    cases er : ma env S with
    | nx e s => rw [er] at q; exact q
    | bk e s => rw [er] at q; exact q
    | ct e s => rw [er] at q; exact q
    | rt d s => rw [er] at q; exact q
    | stuck => rw [er] at q; exact q
    | exc x e s =>
      rw [er] at q
      dsimp only at q
      by_cases hx : x.cls ∈ caught
      · rw [if_pos hx] at q
        refine fun ρ1 H1 σ1 cv o e1 a1 rx => ?_
        obtain ⟨Ca, hCa, rfl, hfs⟩ := rx
        refine ⟨true, hk _ hx _ hCa, fun _ b hb oe pn hzn hd => ?_, fun z => nomatch z⟩
        cases eb : mb (e.set i (some (.hot x.cls (x.fs.map (·.1)) (x.fs.map (·.2))))) s with
        | rt d s' =>
          rw [eb] at q
          unfold sHot at q
          dsimp only at q
          split at q
          · rename_i hh
            obtain ⟨hn, hs'⟩ := hh
            subst hs'
            have q : GS X Wout Z D ρ H (.rt d s') := q
            have hw : ({ zs := Z.zs, hot := some ⟨b, oe, x.cls, o⟩ } : Zt).zs = Z.zs := rfl
            have hot : HotOk (X.suite b ((b, oe) :: pn)) (some ⟨b, oe, x.cls, o⟩) := ⟨(fun z => nomatch z), fun _ => ⟨_, rfl⟩, fun h e => by
              cases e
              obtain ⟨vs, hd⟩ := hd
              exact ⟨⟨rfl, vs, hd, hzn.2.2 vs hd⟩, List.mem_cons_self, Ca, hCa, hzn.zc, vs, hd⟩⟩
            refine ⟨⟨Z.zs, some ⟨b, oe, x.cls, o⟩⟩, ρ1, e.set i (some (.hot x.cls (x.fs.map (·.1)) (x.fs.map (·.2)))), s', ⟨a1.rs.warm hw hz, (a1.re.warm hw hz).set i ?_, hot⟩, ?_⟩
            · cases o with
              | none => exact RV.hot.mpr ⟨_, [], rfl, rfl, rfl, rfl, by rw [hfs]; rfl, by rw [hfs]; exact RVs.nil.mpr rfl⟩
              | some dd =>
                obtain ⟨gs, h1, h2⟩ := hfs
                exact RV.hot.mpr ⟨_, gs, rfl, rfl, rfl, h1, h2.1.symm, h2.2.cold hw (noHots_of hz h2.2)⟩
            · rw [eb]
              intro ρ2 H2 v e2 s2 r2
              have e2' : Ext Z ρ1 H1 ρ2 H2 := ⟨e2.pre, e2.tup, e2.frz, e2.lst, e2.hid, e2.xds⟩
              exact q ρ2 H2 v (e1.trans e2') (a1.rs.cool hw hz s2) (RV.cold (Z := ⟨Z.zs, some ⟨b, oe, x.cls, o⟩⟩) (Z' := Z) rfl hn r2)
          · exact q.elim
        | nx _ _ => rw [eb] at q; exact q.elim
        | bk _ _ => rw [eb] at q; exact q.elim
        | ct _ _ => rw [eb] at q; exact q.elim
        | exc _ _ _ => rw [eb] at q; exact q.elim
        | stuck => rw [eb] at q; exact q.elim
      · rw [if_neg hx] at q
        exact q.elim
end

/-! ### asking the handled exception -/
/-- what the written part says of an error class, so that isinstance asks its instances rightly -/
structure EQ (K : PySem.W.Frag) (mg : Str → Option Value) (x : Str) where
  C : Addr
  g : mg x = some (.ref C)
  c : (PySem.W.clsIn K C).isSome = true
  ga : PySem.W.findIn K (.ref C) "__getattribute__" = some (some (.builtin "BaseException.__getattribute__"))
  gg : PySem.W.findIn K (.ref C) "__getattr__" = some none
  hs : PySem.W.subIn K (.ref C) (.type "BaseException") = some true
  hd : PySem.W.hasDictIn K C = true
  ha : PySem.W.findIn K (.ref C) "__class__" = some (some (.builtin "object.__class__"))
  hn : PySem.W.specialIn K (.builtin "object.__class__") "__get__" = some (some (.builtin "getset_descriptor.__get__"))
  ht : PySem.W.takesIn K (.builtin "object.__class__") = some true
  hm : PySem.W.mroIn K C (.type "object") = some true
/-- isinstance(e, T) of the handled exception, T asked with the answers tab -/
def mIsX (tab : List (Str × Bool)) (ma : ME) (env : Env) (S : Store) : Res D := (bnd (ma env) fun x S => match x with
  | .hot C _ _ => (match tab.lookup C with
    | some b => .ok (.bl b) S
    | none => .stuck)
  | _ => .stuck) S
/-- the answers are right: T is the value cv -/
def TabOk (K : PySem.W.Frag) (mg : Str → Option Value) (cv : Value) (tab : List (Str × Bool)) : Prop := ∀ C b, tab.lookup C = some b → ∃ T : EQ K mg C, PySem.W.kitOne K (.ref T.C) cv = some b
theorem TabOk.nil {K : PySem.W.Frag} {mg : Str → Option Value} {cv : Value} : TabOk K mg cv [] := fun _ _ h => nomatch h
theorem TabOk.cons {K : PySem.W.Frag} {mg : Str → Option Value} {cv : Value} {C : Str} {b : Bool} {tab : List (Str × Bool)} (T : EQ K mg C) (h : PySem.W.kitOne K (.ref T.C) cv = some b) (r : TabOk K mg cv tab) : TabOk K mg cv ((C, b) :: tab) := fun D d e => by
  by_cases hd : D = C
  · subst hd
    simp [List.lookup] at e
    subst e
    exact ⟨T, h⟩
  · have z : (D == C) = false := by simpa using hd
    simp [List.lookup, z] at e
    exact r D d e
section
variable {X : Cx} {W : WX}
def rIsH (X : Cx) : List V → Hp → VK → Prop := fun xs H Q => ∃ (h : Hot) (T : EQ X.K X.mg h.C) (c : V) (cv : Value) (b : Bool) (gs : List (Str × V)), HotOk X (some h) ∧ xs = [.ref h.a, c] ∧ (∀ u, RelV c u → u = cv) ∧ PySem.W.kitOne X.K (.ref T.C) cv = some b ∧ OwnD H h.d gs ∧ Q (.bl b) H
theorem call_isH : CallR X (.builtin "isinstance") (rIsH X) := by
  intro pins s σ H xs us Q I r hq
  obtain ⟨h, T, c, cv, b, gs, hh, rfl, hcv, e, ho, q⟩ := hq
  obtain ⟨hot, hpn, Ca, hCa, hz, vs, hv⟩ := hh.at_ h rfl
  have hC : Ca = T.C := by
    have z := Option.some.inj (hCa.symm.trans T.g)
    cases z
    rfl
  subst hC
  cases r with
  | cons rx rr =>
    cases rr with
    | cons rt rr =>
      cases rr
      cases rx
      have ec := hcv _ rt
      subst ec
      obtain ⟨hget, _⟩ := I.pin (h.a, h.oe) (List.mem_append_left _ hpn)
      have J : ∃ od, PySem.W.InstAt s.heap h.a h.oe T.C od := by
        cases hd : h.d with
        | none => exact ⟨none, hget, hz.1, by unfold PySem.W.notCls; rw [hv], by rw [hz.2, hd]; trivial⟩
        | some dd =>
          rw [hd] at ho
          have hx : ObjOk X.prog X.w H s.heap dd (.xd gs) := I.hok dd _ ho
          obtain ⟨mA, hns, hr⟩ := hx
          obtain ⟨od, ho2, hl⟩ := lookIn_ns hns
          exact ⟨some od, hget, hz.1, by unfold PySem.W.notCls; rw [hv], by rw [hz.2, hd]; exact ho2⟩
      obtain ⟨od, J⟩ := J
      exact PySem.W.kia_one (PySem.W.kitx_exc T.c T.ga T.gg T.hs T.ha T.hn T.ht T.hm) I.kIn J e (fun z => nomatch z) fun tk => ⟨.bl b, H, I.kept (t' := tk) fun _ _ z => z, rfl, q⟩
variable {a b : Expr} {ma : ME} {pos p : Pos} {tab : List (Str × Bool)} {y : Str} {py : Pos}
theorem isx_of {c : V} {cv : Value} (hcv : ∀ u, RelV c u → u = cv) (tk : TabOk X.K X.mg cv tab) {σ : L2.St} {H : Hp} {Q : VK} (q : rd X W (mIsX tab ma) σ H Q) : rd X W ma σ H fun x H1 => rIsH X [x, c] H1 Q := by
  obtain ⟨Z, ρ, env, S, a, q⟩ := q
  refine a.first q fun ρ1 H1 S1 x v a1 e1 rv q1 => ?_
  cases x with
  | hot C ks ds =>
    obtain ⟨h, gs, hz, rfl, rfl, ho, _, _⟩ := RV.hot.mp rv
    have q1 : GE X W Z σ ρ1 H1 (match tab.lookup h.C with
      | some b => Res.ok (D.bl b) S1
      | none => .stuck) (qV X Z Q) := q1
    cases e : tab.lookup h.C with
    | none => rw [e] at q1; exact q1.elim
    | some b =>
      rw [e] at q1
      obtain ⟨T, k⟩ := tk _ _ e
      exact ⟨h, T, c, cv, b, gs, by rw [← hz]; exact a1.hot, rfl, hcv, k, ho, q1 ρ1 H1 Ext.refl a1.rs _ (RV.bl.mpr rfl)⟩
  | _ => exact q1.elim
/-- isinstance(e, C) of an own class -/
theorem se_isx {C : Addr} (tk : TabOk X.K X.mg (.ref C) tab) (hg : Gl X "isinstance" := by rfl) (hm : X.mg "isinstance" = none) (hgT : Gl X y := by rfl) (hmT : X.mg y = some (.ref C)) (ha : SE X W a ma)
    (he : starEach [a, .Name y py] X.env = (false, eval a X.env) :: starEach [.Name y py] X.env := by rfl) (hpl : (backTo pos (starEach [.Name y py] X.env)).any (·.1) = false := by rfl) (hd : (y == ("__debug__" : Str)) = false := by decide) :
    SE X W (.Call (.Name "isinstance" p) [a, .Name y py] [] pos) (mIsX tab ma) :=
  PE.imp (pe_callB call_isH hg hm (by decide +kernel) (pa_cons ha (pa_cons (pe_glob (v := .ref C) hgT hmT rfl hd) pa_nil) he) (he := he) (hpl := hpl)) fun σ H Q q => isx_of (c := .ref C) (cv := .ref C) (fun u r => r) tk q
/-- .. of a built-in class -/
theorem se_isxb (T : String) (tk : TabOk X.K X.mg (.type T) tab) (hg : Gl X "isinstance" := by rfl) (hm : X.mg "isinstance" = none) (hgT : Gl X y := by rfl) (hmT : X.mg y = none) (hvT : bootBuiltins y = some (.type T)) (ha : SE X W a ma)
    (he : starEach [a, .Name y py] X.env = (false, eval a X.env) :: starEach [.Name y py] X.env := by rfl) (hpl : (backTo pos (starEach [.Name y py] X.env)).any (·.1) = false := by rfl) (hn : y ≠ "__name__" := by decide) (hd : (y == ("__debug__" : Str)) = false := by decide) :
    SE X W (.Call (.Name "isinstance" p) [a, .Name y py] [] pos) (mIsX tab ma) :=
  PE.imp (pe_callB call_isH hg hm (by decide +kernel) (pa_cons ha (pa_cons (pe_bltn hgT hmT hvT (v := .ty T) rfl hn hd) pa_nil) he) (he := he) (hpl := hpl)) fun σ H Q q => isx_of (c := .ty T) (cv := .type T) (fun u r => r) tk q
/-- e.f of the handled exception, in the suite itself -/
def mFld (C n : Str) (ma : ME) (env : Env) (S : Store) : Res D := (bnd (ma env) fun x S => match x with
  | .hot D ks ds => if D = C then (match (ks.zip ds).lookup n with
    | some d => .ok d S
    | none => .stuck) else .stuck
  | _ => .stuck) S
theorem zip_get {K : PySem.W.Frag} {ρ : List Addr} {Z : Zt} {H : Hp} {n : Str} {d : D} : ∀ {ds : List D} {gs : List (Str × V)}, RVs K ρ Z H ds (gs.map (·.2)) → ((gs.map (·.1)).zip ds).lookup n = some d → ∃ v, gs.lookup n = some v ∧ RV K ρ Z H d v
  | [], [], _, h => by simp at h
  | [], g :: gs, r, h => by simp at h
  | x :: ds, [], r, h => by simp at h
  | x :: ds, (m, w) :: gs, r, h => by
    obtain ⟨y, t, e, r1, r2⟩ := RVs.cons.mp r
    simp only [List.map_cons, List.cons.injEq] at e
    obtain ⟨e1, e2⟩ := e
    subst e1 e2
    simp only [List.map_cons, List.zip_cons_cons, List.lookup_cons] at h ⊢
    cases q : (n == m) with
    | true =>
      rw [q] at h
      cases h
      exact ⟨w, rfl, r1⟩
    | false =>
      rw [q] at h
      exact zip_get r2 h
theorem se_fld {x n : Str} {a0 : Addr} {oe : Obj} {cls : Value} {d : Option Addr} {pn : List (Addr × Obj)} {e : Expr} (T : EQ X.K X.mg x) (hno : PySem.W.findIn X.K (.ref T.C) n = some none) (hz : L2N.Zn cls d oe) (hf : ∃ vs, oe.data = .fields vs)
    (he : SE (X.suite a0 ((a0, oe) :: pn)) W e ma) (hb : attributeBase e n X.env (eval e X.env) = eval e X.env := by rfl) : SE (X.suite a0 ((a0, oe) :: pn)) W (.Attribute e n pos) (mFld x n ma) := by
  refine ⟨fun pins s σ H Q I q => (pe_xf (n := n) (pos := pos) ⟨T.ga, T.gg, T.hs, T.hd⟩ hno hz.zc hf he hb).run pins s σ H Q I ?_⟩
  obtain ⟨Z, ρ, env, S, a, q⟩ := q
  refine a.first q fun ρ1 H1 S1 y v a1 e1 rv q1 => ?_
  cases y with
  | hot D ks ds =>
    obtain ⟨h, gs, hh, rfl, rfl, ho, rfl, rs⟩ := RV.hot.mp rv
    have q1 : GE (X.suite a0 ((a0, oe) :: pn)) W Z σ ρ1 H1 (if h.C = x then (match ((gs.map (·.1)).zip ds).lookup n with
      | some d => Res.ok d S1
      | none => .stuck) else .stuck) (qV (X.suite a0 ((a0, oe) :: pn)) Z Q) := q1
    by_cases hx : h.C = x
    · rw [if_pos hx] at q1
      cases el : ((gs.map (·.1)).zip ds).lookup n with
      | none => rw [el] at q1; exact q1.elim
      | some dd =>
        rw [el] at q1
        obtain ⟨w, hw, rw'⟩ := zip_get rs el
        obtain ⟨hot, hpn, Ca, hCa, hzc, _⟩ := a1.hot.at_ h hh
        have ea : h.a = a0 := by
          have z : some (Value.ref a0) = some (.ref h.a) := hot.1
          cases z
          rfl
        have eC : Ca = T.C := by
          have z := Option.some.inj (hCa.symm.trans (by rw [hx]; exact T.g))
          cases z
          rfl
        have eo : h.oe = oe := by
          have z1 := (I.pin (h.a, h.oe) (List.mem_append_left _ hpn)).1
          have z2 := (I.pin (a0, oe) (List.mem_append_left _ List.mem_cons_self)).1
          rw [ea] at z1
          exact Option.some.inj (z1.symm.trans z2)
        have ecls : cls = .ref T.C := by rw [← hz.1, ← eo, ← eC]; exact hzc.1
        have ed : d = h.d := by rw [← hz.2.1, ← eo]; exact hzc.2
        cases hd : h.d with
        | none =>
          rw [hd] at ho
          have ho : gs = [] := ho
          rw [ho] at hw
          cases hw
        | some dx =>
          rw [hd] at ho
          exact ⟨by rw [ea], ecls, dx, gs, w, by rw [ed, hd], ho, hw, q1 ρ1 H1 Ext.refl a1.rs w rw'⟩
    · rw [if_neg hx] at q1
      exact q1.elim
  | _ => exact q1.elim
end
end Py

set_option Elab.async false
set_option linter.all false
set_option maxRecDepth 100000
set_option maxHeartbeats 1000000
/-! defs that are called in an except suite; list.count of truth values -/
namespace Py
open PySem PySem.Spec PyProof.Rows L2

/-! ### defs that are called while an exception is handled -/
structure FnP (P : Program) (w : World) (K : PySem.W.Frag) (mg : Str → Option Value) (base : Heap) (CX : CXT) (k : Nat) (f : Addr) (fd : FuncData) (ps : List Str) (sp : Addr × Obj → Sp) : Prop where
  len : ∀ p vs H Q E, sp p vs H Q E → vs.length = ps.length
  run : ∀ (A : Around) (outer : List PySem.Env) (s : Shared) (H : Hp) (args : Args) (us : List Value) (vs : List V) (Q : VK) (E : XK) (p : Addr × Obj), L2H.RoomH k A → L2H.Hot1 A p → L2H.PinOk outer H s p → Env0 P w K mg base A outer s H → BindsTo s fd args (ps.zip us) → Vals vs us → sp p vs H Q E →
    codeAny (model P w) A (.call (.ref f) args) (CR CX outer P w H s Q E) s
section
variable {P : Program} {w : World} {K : PySem.W.Frag} {mg : Str → Option Value} {base : Heap}
theorem fn_ofP {CX : CXT} {k : Nat} {f : Addr} {name qual : Str} {params : Arguments} {body : List Stmt} {scope : Scope} {dV kV doc pm cdv ct oc : Value} {an od : Option Addr}
    {osl : Array (Option Value)} {N ps : List Str} {sp : Addr × Obj → Sp} (lk : K.lookup f = some ⟨oc, od, .func (PySem.W.fnOf name qual params body scope dV kV doc pm an cdv ct), osl⟩) (hcd : PySem.W.codeIn K cdv qual = true) (S : FnScope N ps scope)
    (len : ∀ p vs H Q E, sp p vs H Q E → vs.length = ps.length)
    (hbody : ∀ (A : Around) (outer : List PySem.Env) (s : Shared) (H : Hp) (vs : List V) (Q : VK) (E : XK) (p : Addr × Obj), L2H.Hot1 A p → L2H.RoomH k (A.deeper (envOfC qual scope s.heap.objs.size f cdv)) → sp p vs H Q E →
      ∃ t, PSs (L2H.cxH CX P w K mg base N qual scope f cdv A outer s H E p) body t ∧ t { nx := fun _ H' => Q .non H', rt := Q } (L2.start N vs) H) :
    FnP P w K mg base CX (k + 1) f (PySem.W.fnOf name qual params body scope dV kV doc pm an cdv ct) ps sp := by
  refine ⟨len, fun A outer s H args us vs Q E p hr hot hpin e0 hb r hsp => ?_⟩
  have hl := len _ _ _ _ _ hsp
  have KX : K.In s.heap := e0.mod.kin.keeps fun b o e => (e0.bs b o e).1
  have lim : s.heap.NoLimit := e0.mod.nolimit.keeps fun b o e => (e0.bs b o e).1
  have hkind : ∀ y ∈ ps.zip us, scope.names.lookup y.1 = some .local ∨ (scope.names.lookup y.1 = some .cell ∧ ((cellsFrom (s.heap.objs.size + 1) scope.names []).lookup y.1).isSome = true) := fun ⟨n, v⟩ hy => by
    rcases S.par n (List.of_mem_zip hy).1 with q | q
    · exact .inl q
    · exact .inr ⟨q, PySem.W.cellsFrom_some _ _ _ (.inl q)⟩
  refine codeAny_call_function hr.depth (KX _ _ lk) rfl S.co S.gen rfl (PySem.W.codeRec_of KX hcd) (hb _ _ _ _ ?_)
  refine wpAny_newFunctionEnv_cells S.kind hkind fun env he s1 x => ?_
  subst he
  refine ⟨lim.keeps x.toInCall.keep, codeAny_func ?_⟩
  obtain ⟨t, ht, hq⟩ := hbody A outer s H vs Q E p hot (hr.deeper _) hsp
  have I : Inv (L2H.cxH CX P w K mg base N qual scope f cdv A outer s H E p) [] (L2.start N vs) H s1 := L2H.inv_startH S hpin e0 hl r x
  refine wpAny_mono (ht.run [] s1 (L2.start N vs) H _ I hq) (fun fl s' hs => ?_) fun e s' hs => hs
  have fin : ∀ {σ' : L2.St} {H' : Hp} {v : V} {u : Value}, Inv (L2H.cxH CX P w K mg base N qual scope f cdv A outer s H E p) [] σ' H' s' → RelV v u → Q v H' → CE outer P w H s Q u s' :=
    fun {σ' H' v u} J rv q => ⟨v, H', J.os, J.bare, J.base, J.hok, rv, q⟩
  cases fl with
  | ret u =>
    obtain ⟨v, σ', H', J, rv, q⟩ := hs
    exact fin J rv q
  | next =>
    obtain ⟨σ', H', J, q⟩ := hs
    exact fin (v := V.non) (u := Value.none) J rfl q
  | brk =>
    obtain ⟨_, _, _, q⟩ := hs
    exact False.elim q
  | cont =>
    obtain ⟨_, _, _, q⟩ := hs
    exact False.elim q
/-- what is promised of a def that is called while p is handled -/
def spP (K : PySem.W.Frag) (mg : Str → Option Value) (n : Nat) (f : MF) (p : Addr × Obj) : Sp := fun vs H Q E => ∃ (Z : Zt) (ρ : List Addr) (S : Store) (ds : List D) (h : Hot), Z.hot = some h ∧ (h.a, h.oe) = p ∧ HotF mg h ∧ ds.length = n ∧ RS K ρ Z H mg S ∧ RVs K ρ Z H ds vs ∧ (match f ds S with
  | .ok d S' => ∀ ρ' H' v, Ext Z ρ H ρ' H' → RS K ρ' Z H' mg S' → RV K ρ' Z H' d v → Q v H'
  | .exc x S' => ∀ ρ' H' c o, Ext Z ρ H ρ' H' → RS K ρ' Z H' mg S' → RX K ρ' Z H' mg x c o → E c o H'
  | .stuck => False)
theorem fn_okP {x qual : Str} {st : Stmt} {f : Addr} {fd : FuncData} {N ps : List Str} {k : Nat} {body : MS} (F : Fun K x qual st f fd) (S : FnScope N ps (defScope st))
    (h : ∀ (cdv : Value) (A : Around) (outer : List PySem.Env) (s : Shared) (H : Hp) (E : XK) (p : Addr × Obj), L2H.RoomH k (A.deeper (envOfC qual (defScope st) s.heap.objs.size f cdv)) →
      L2H.HotC (L2H.cxH (L2N.CX P w) P w K mg base N qual (defScope st) f cdv A outer s H E p) →
      L2N.Takes (L2H.cxH (L2N.CX P w) P w K mg base N qual (defScope st) f cdv A outer s H E p) (fun c d _ H => E c d H) →
      PassesOwn (model P w) (L2H.cxH (L2N.CX P w) P w K mg base N qual (defScope st) f cdv A outer s H E p).A (L2H.cxH (L2N.CX P w) P w K mg base N qual (defScope st) f cdv A outer s H E p).env (L2H.cxH (L2N.CX P w) P w K mg base N qual (defScope st) f cdv A outer s H E p).xe →
      SSs (L2H.cxH (L2N.CX P w) P w K mg base N qual (defScope st) f cdv A outer s H E p) (fun c d _ H => E c d H) (defBody st) body) : FnP P w K mg base (L2N.CX P w) (k + 1) f fd ps (spP K mg ps.length (mDef N.length body)) := by
  obtain ⟨oc, od, kV, doc, pm, an, cdv, ct, osl, rfl, lk, hcd⟩ := F.ex
  refine fn_ofP lk hcd S (fun p vs H Q E h => ?_) (fun A outer s H vs Q E p hot hr h2 => ?_)
  · obtain ⟨Z, ρ, S, ds, h, _, _, _, hl, _, r, _⟩ := h
    rw [r.length, hl]
  · obtain ⟨Z, ρ, St, ds, hh, hz, rfl, hf, hl, rs, r, q⟩ := h2
    have hot' : L2H.Hot1 (L2H.cxH (L2N.CX P w) P w K mg base N qual (defScope st) f cdv A outer s H E (hh.a, hh.oe)).A (hh.a, hh.oe) := hot
    have ho : HotOk (L2H.cxH (L2N.CX P w) P w K mg base N qual (defScope st) f cdv A outer s H E (hh.a, hh.oe)) Z.hot := ⟨(fun z => nomatch z), fun _ => ⟨hh, hz⟩, fun h e => by
      rw [hz] at e
      cases e
      exact ⟨hot', List.mem_singleton.mpr rfl, hf⟩⟩
    refine ⟨_, h cdv A outer s H E (hh.a, hh.oe) hr ⟨_, hot', List.mem_singleton.mpr rfl⟩ (L2N.takes_of rfl rfl rfl rfl) (passes_of (X := L2H.cxH (L2N.CX P w) P w K mg base N qual (defScope st) f cdv A outer s H E (hh.a, hh.oe)) rfl), Z, ρ, _, St, ⟨rs, re_start r, ho⟩, ?_⟩
    unfold mDef at q
    cases eb : body (ds.map some ++ List.replicate (N.length - ds.length) none) St with
    | nx e s => rw [eb] at q; exact fun ρ' H' σ' ee aa => q ρ' H' .non ee aa.rs (RV.non.mpr rfl)
    | ct e s => rw [eb] at q; exact q.elim
    | bk e s => rw [eb] at q; exact q.elim
    | rt d s => rw [eb] at q; exact q
    | exc x e s => rw [eb] at q; exact fun ρ' H' σ' c o ee aa rx => q ρ' H' c o ee aa.rs rx
    | stuck => rw [eb] at q; exact q
theorem fnP_none {f : Addr} {fd : FuncData} {ps : List Str} {n k : Nat} (hn : ps.length = n) : FnP P w K mg base (L2N.CX P w) k f fd ps (spP K mg n fun _ _ => .stuck) :=
  ⟨fun p vs H Q E ⟨_, _, _, _, _, _, _, _, _, _, _, h⟩ => h.elim, fun _ _ _ _ _ _ _ _ _ _ _ _ _ _ _ _ ⟨_, _, _, _, _, _, _, _, _, _, _, h⟩ => h.elim⟩
end
section
variable {X : Cx} {W : WX} {k n : Nat} {f : Addr} {fd : FuncData} {ps : List Str} {g : MF} {x : Str} {q pos : Pos} {e : Expr} {es : List Expr} {mas : MA} {t : TA}
def tCallP (X : Cx) (sp : Addr × Obj → Sp) (E : L2.St → XK) (t : TA) : TE := fun σ H Q => t σ H fun vs H1 => ∃ p, L2H.Hot1 X.A p ∧ p ∈ X.pn ∧ sp p vs H1 Q (E σ)
theorem pe_callP {sp : Addr × Obj → Sp} {E : L2.St → XK} {CX : CXT} (F : FnP X.prog X.w X.K X.mg X.base CX k f fd ps sp) (hr : L2H.RoomH k X.A) (hg : Gl X x) (hm : X.mg x = some (.ref f)) (hk : PySem.W.keepIn X.K (.ref f) = true) (hb : Binds X.K fd ps []) (hx : ∀ σ, PassesAt CX X σ (E σ))
    (ha : PA X (e :: es) t) (hdb : (x == ("__debug__" : Str)) = false := by decide) (he : starEach (e :: es) X.env = (false, eval e X.env) :: starEach es X.env := by rfl) (hpl : (backTo pos (starEach es X.env)).any (·.1) = false := by rfl) :
    PE X (.Call (.Name x q) (e :: es) [] pos) (tCallP X sp E t) := by
  refine ⟨fun pins s σ H Q I h => ?_⟩
  refine wpAny_Call_Name_kw (ld_glob I hg hm ?_ hdb)
  refine PySem.W.callWith_K (h₀ := X.base) I.ok.mod.kin hk (thn (ha.run pos pins s σ H _ I h) fun us s1 ⟨vs, H1, I1, r, p, hot, hp, hq⟩ => ⟨I1.kIn, ?_⟩) he hpl
  have hl : us.length = ps.length := by rw [← r.length]; exact F.len _ _ _ _ _ hq
  have b := hb s1 us I1.kIn (by rw [List.append_nil]; exact hl)
  rw [List.append_nil] at b
  have P1 := I1.pin p (List.mem_append_left _ hp)
  have hpin : L2H.PinOk X.stack H1 s1 p := ⟨P1.1, P1.2.1, fun hm => (List.mem_cons.mp (I1.stkSub p.1 hm)).elim P1.2.2.1 P1.2.2.2.1, P1.2.2.2.2⟩
  refine wpAny_call (codeAny_mono (F.run X.A X.stack s1 H1 ⟨us, []⟩ us vs Q (E σ) p hr hot hpin I1.env0 b r hq) fun r s' hq => ?_)
  cases r with
  | error e => exact hx σ pins H1 s1 e s' I1 hq
  | ok fl =>
    cases fl with
    | ret u => exact I1.after hq
    | next => exact False.elim hq
    | brk => exact False.elim hq
    | cont => exact False.elim hq
theorem se_callP (hc : X.calm = false) (F : FnP X.prog X.w X.K X.mg X.base (L2N.CX X.prog X.w) k f fd ps (spP X.K X.mg n g)) (hr : L2H.RoomH k X.A) (tk : L2N.Takes X W) (hg : Gl X x) (hm : X.mg x = some (.ref f)) (hk : PySem.W.keepIn X.K (.ref f) = true) (hb : Binds X.K fd ps [])
    (ha : SA X W (e :: es) mas) (hdb : (x == ("__debug__" : Str)) = false := by decide) (he : starEach (e :: es) X.env = (false, eval e X.env) :: starEach es X.env := by rfl) (hpl : (backTo pos (starEach es X.env)).any (·.1) = false := by rfl) :
    SE X W (.Call (.Name x q) (e :: es) [] pos) (mCall n g mas) := by
  refine PE.imp (pe_callP (E := fun σ c o H => W c o σ H) F hr hg hm hk hb (fun σ => L2N.passAt tk σ) ha hdb he hpl) fun σ H Q ⟨Z, ρ, env, S, a, q⟩ => ?_
  refine a.firstA q fun ρ1 H1 S1 xs vs a1 e1 rvs q1 => ?_
  obtain ⟨c, q2⟩ := q1.need
  obtain ⟨h, hz⟩ := a1.hot.warm hc
  obtain ⟨hot, hp, hf⟩ := a1.hot.at_ h hz
  refine ⟨(h.a, h.oe), hot, hp, Z, ρ1, S1, xs, h, hz, rfl, hf, c, a1.rs, rvs, ?_⟩
  cases eg : g xs S1 with
  | ok d S' => rw [eg] at q2; exact fun ρ' H' v e s r => q2 ρ' H' e s v r
  | exc x S' => rw [eg] at q2; exact q2
  | stuck => rw [eg] at q2; exact q2
/-- what a loop walks, there -/
def SIH (X : Cx) (W : WX) (tg iter : Expr) (mi : Env → M Src) : Prop := L2H.PIH X tg iter (rdI X W mi)
variable {tg : Expr} {sts : List Stmt} {b : MS} {gg : MG} {ma : ME}
theorem PIH.imp {iter : Expr} {t t' : TI} (h : L2H.PIH X tg iter t) (k : ∀ σ H R, t' σ H R → t σ H R) : L2H.PIH X tg iter t' := ⟨fun pins s σ H R I q => h.run pins s σ H R I (k σ H R q)⟩
theorem ss_forH {iter : Expr} {mi : Env → M Src} {g : MG} (hp : PassesOwn (model X.prog X.w) X.A X.env X.xe) (hc : L2H.HotC X) (hi : SIH X W tg iter mi) (hg : SG X tg g) (hb : SSs X W sts b) (hs : ∀ x, foldedSetIterable iter X.env x = pure x := by intro _; rfl) :
    SS X W (.For tg iter sts [] pos) (sFor mi g b) := by
  refine PS.imp (L2H.ps_forH hp hc hi hg hb hs) fun D σ H ⟨Z, ρ, env, S, a, q⟩ => ?_
  refine ⟨Z, ρ, env, S, a, (GS.bnd a q).imp fun src S0 ρ0 H0 e0 s0 q0 J wk => ?_⟩
  refine ⟨fun i m σ H => m = src.ds.length - i ∧ i ≤ src.ds.length ∧ ∃ ρ env S, Ext Z ρ0 H0 ρ H ∧ At X Z ρ H S env σ ∧ GS X W Z D ρ H (forL src.ok g b (src.ds.drop i) env S), ⟨_, rfl, Nat.zero_le _, ρ0, env, S0, Ext.refl, a.ext e0 s0, q0⟩, ?_⟩
  rintro i m σ1 H1 ⟨rfl, hil, ρ1, env1, S1, e1, a1, q1⟩
  by_cases hi : i < src.ds.length
  · rw [List.drop_eq_getElem_cons hi] at q1
    unfold forL at q1
    split at q1
    · rename_i ok
      obtain ⟨g1, g2⟩ := wk.go i src.ds[i] Z ρ1 H1 S1 e1.cpy a1.rs ok (List.getElem?_eq_getElem hi)
      refine .inr ⟨g1, fun σ H => ∃ ρ env S, Ext Z ρ0 H0 ρ H ∧ At X Z ρ H S env σ ∧ GS X W Z D ρ H (forL src.ok g b (src.ds.drop (i + 1)) env S), fun σ' H' h => ⟨_, by omega, rfl, hi, h⟩, fun x H2 y => ?_⟩
      obtain ⟨e2, s2, r2⟩ := g2 x H2 y
      refine ⟨Z, ρ1, env1, S1, _, a1.ext e2 s2, r2, (GS.tgt (GS.ext e2 q1)).imp fun env3 S3 ρ3 H3 e3 s3 q3 σ3 a3 => ⟨Z, ρ3, env3, S3, a3, ?_⟩⟩
      have ee := e1.trans (e2.trans e3)
      cases eb : b env3 S3 with
      | nx e s => rw [eb] at q3; exact fun ρ' H' σ' e4 aa => ⟨ρ', e, s, ee.trans e4, aa, GS.ext e4 q3⟩
      | ct e s => rw [eb] at q3; exact fun ρ' H' σ' e4 aa => ⟨ρ', e, s, ee.trans e4, aa, GS.ext e4 q3⟩
      | bk e s => rw [eb] at q3; exact q3
      | rt d s => rw [eb] at q3; exact q3
      | exc x e s => rw [eb] at q3; exact q3
      | stuck => rw [eb] at q3; exact q3
    · exact q1.elim
  · have z : i = src.ds.length := by omega
    subst z
    rw [List.drop_length] at q1
    unfold forL at q1
    split at q1
    · rename_i ok
      exact .inl ⟨wk.stop _ Z ρ1 H1 S1 e1.cpy a1.rs ok (Nat.le_refl _), q1 ρ1 H1 σ1 Ext.refl a1⟩
    · exact q1.elim

theorem sih_rng1 {p : Pos} {mas : MA} (hg : Gl X "range" := by rfl) (hm : X.mg "range" = none) (ha : SA X W [e] mas) (hs : starEach [e] X.env = [(false, eval e X.env)] := by rfl) : SIH X W tg (.Call (.Name "range" p) [e] [] pos) (iF rng1 mas) := by
  refine PIH.imp (L2H.pi_range1H hg hm ha hs) fun σ H R ⟨Z, ρ, env, S, a, q⟩ => ?_
  refine a.firstA q fun ρ1 H1 S1 xs vs a1 e1 rvs q1 => ?_
  match xs, q1 with
  | [.int j], q1 =>
    obtain ⟨v, rfl, h1⟩ := rvs1 rvs
    obtain ⟨c, q1⟩ := GE.need (show GE X W Z σ ρ1 H1 (need (-(2 ^ 62) ≤ j ∧ j < 2 ^ 62) (giv (srcR 0 j)) S1) _ from q1)
    have w := q1.giv a1.rs _ (wk_rng (lo := 0) (hi := j))
    rw [Int.sub_zero] at w
    exact ⟨j, by rw [RV.int.mp h1], c.1, c.2, w⟩

end

/-! ### list.count of a list of flat things -/
section
variable {X : Cx} {W : WX} {pos cpos apos p : Pos} {o e : Expr} {ma : ME} {mas : MA}
def cntV (x : V) (xs : List V) : Nat := xs.countP fun y => eqV y x
def rCntF (K : PySem.W.Frag) : V → List V → Hp → VK → Prop := fun x xs H Q => ∃ (p : Addr) (ys : List V) (y : V), x = .ref p ∧ xs = [y] ∧ SqL K H p ys ∧ flatV y = true ∧ ys.all flatV = true ∧ Q (.int (cntV y ys : Nat)) H
theorem countU {y : V} {uy : Value} (ry : RelV y uy) (fy : flatV y = true) : ∀ {ys : List V} {us : List Value}, Vals ys us → ys.all flatV = true → us.countP (eqU y) = cntV y ys
  | [], _, .nil, _ => rfl
  | z :: ys, _, .cons r rs, f => by
    rw [List.all_cons, Bool.and_eq_true] at f
    have ih := countU ry fy rs f.2
    unfold cntV at ih ⊢
    rw [List.countP_cons, List.countP_cons, ih, eqU_of r f.1]
theorem mt_countF : MtR X "list.count" (rCntF X.K) := by
  intro pins s σ H x xs v us Q I rx rxs h
  obtain ⟨p, ys, y, rfl, rfl, hs, fy, fys, q⟩ := h
  cases rx
  cases rxs with
  | cons ry rt =>
    rename_i uy ut
    cases rt
    obtain ⟨its, rv, ⟨⟨cls, dd, data, sl⟩, n, ho, hc, hdn, hd⟩, hlen⟩ := I.list hs
    simp only at hc hd
    subst hc hd
    refine call_meets PySem.F.slot_list_count ⟨_, ho, rfl⟩ PySem.F.entry_list_count (PySem.F.args_list_count_2 _ _)
      (SeqAt.list_countAt p its.toArray n dd sl uy (eqU y)) ⟨ho, fun u hu => mem_eqAt ry fy rv fys u (by simpa using hu), ?_⟩
    have ec : its.toArray.toList.countP (eqU y) = cntV y ys := countU ry fy rv fys
    refine ⟨.int (cntV y ys : Nat), H, I.tok _, ⟨s.toks, ?_⟩, q⟩
    show Value.int ((its.toArray.toList.countP (eqU y) : Nat) : Int) s.toks = Value.int ((cntV y ys : Nat) : Int) s.toks
    rw [ec]
def gCount : D → MF
  | .rol ds, [d] => need (flatD d = true ∧ ds.all flatD = true) (giv (.int ((ds.countP fun e => eqD e d : Nat) : Int)))
  | _, _ => fail
theorem cntV_eq {K : PySem.W.Frag} {ρ : List Addr} {Z : Zt} {H : Hp} {d : D} {v : V} (r : RV K ρ Z H d v) (f : flatD d = true) : ∀ {ds : List D} {vs : List V}, RVs K ρ Z H ds vs → ds.all flatD = true → vs.all flatV = true ∧ cntV v vs = ds.countP fun e => eqD e d
  | [], _, h, _ => by rw [RVs.nil.mp h]; exact ⟨rfl, rfl⟩
  | e :: ds, _, h, g => by
    obtain ⟨x, t, rfl, h2, h3⟩ := RVs.cons.mp h
    rw [List.all_cons, Bool.and_eq_true] at g
    obtain ⟨i1, i2⟩ := cntV_eq r f h3 g.2
    refine ⟨by rw [List.all_cons, flatD_ok h2 g.1, i1]; rfl, ?_⟩
    unfold cntV at i2 ⊢
    rw [List.countP_cons, List.countP_cons, i2, eqD_ok h2 r g.1 f]
theorem om_count : OM X W (rCntF X.K) gCount := by
  intro Z σ ρ H S x v ds vs Q s rx rs q
  cases x with
  | rol xs =>
    match ds, q with
    | [d], q =>
      obtain ⟨w, rfl, r1⟩ := rvs1 rs
      obtain ⟨a, ys, rfl, h2, h3⟩ := RV.rol.mp rx
      obtain ⟨c, q⟩ := GE.need (show GE X W Z σ ρ H (need (flatD d = true ∧ xs.all flatD = true) (giv (D.int ((xs.countP fun e => eqD e d : Nat) : Int))) S) (qV X Z Q) from q)
      obtain ⟨i1, i2⟩ := cntV_eq r1 c.1 h3 c.2
      exact ⟨a, ys, w, rfl, rfl, SqL.of h2.1, flatD_ok r1 c.1, i1, by rw [i2]; exact q.giv s _ (RV.int.mpr rfl)⟩
  | _ => exact q.elim
theorem se_count (ho : SE X W o ma) (ha : SA X W [e] mas) (hbase : attributeBase o "count" X.env (eval o X.env) = eval o X.env := by rfl)
    (hfew : ((backTo cpos (starEach [e] X.env)).all (fun x => !x.1) && (backToKw cpos (keywordEach [] X.env)).all (fun x => x.1.isSome) && decide ([e].length + ([] : List Keyword).length + (if ([] : List Keyword).isEmpty then 0 else 1) < 30)) = true := by rfl)
    (hline : (apos.endLine == cpos.line) = true := by rfl) (hs : starEach [e] X.env = (false, eval e X.env) :: starEach [] X.env := by rfl) : SE X W (.Call (.Attribute o "count" apos) [e] [] cpos) (mMe "list" gCount ma mas) :=
  se_me PySem.F.plainAttrs_list PySem.F.slot_list_count PySem.F.type_list_count mt_countF om_count ho ha hbase hfew hline hs
end

/-! ### for the end of a text -/
theorem roomH_mark {A : Around} {j k : Nat} {h : Option Value} (r : Room k A) (l : j ≤ k) : L2H.RoomH j (A.mark h) := ⟨by have := r.dp; show A.depth + 3 * j + 5 < _; omega, by have := r.un; show A.units + 16 * j + 200 < _; omega⟩
theorem no_of2 {K : PySem.W.Frag} {C : Addr} {f1 f2 : Str} (h1 : PySem.W.findIn K (.ref C) f1 = some none) (h2 : PySem.W.findIn K (.ref C) f2 = some none) : ∀ n ∈ ([f1, f2] : List Str), PySem.W.findIn K (.ref C) n = some none := fun n h => by
  rcases List.mem_cons.mp h with e | h
  · rw [e]; exact h1
  · rw [List.mem_singleton.mp h]; exact h2
/-- the class's own row of the text -/
def oexIn (K : PySem.W.Frag) (C : Addr) : Bool := match K.lookup C with
  | some ⟨.type "type", _, .cls cd, sl⟩ => (match cd.mro, sl.toList with
    | .ref C' :: bm, [_, _, _, _, some (.builtin n), _] => C' == C && n == "ValueError.__new__" && !cd.hasDel && cd.hasDict && PySem.HandSPX.refsVE bm
    | _, _ => false)
  | _ => false
theorem oexC_of {K : PySem.W.Frag} {C : Addr} (q : oexIn K C = true) (sa : PySem.W.findIn K (.ref C) "__setattr__" = some (some (.builtin "object.__setattr__"))) (ex : PySem.W.subIn K (.ref C) (.type "BaseException") = some true) (ty : PySem.W.typeIn K (.ref C) = some (.type "type")) (k : PySem.W.keepIn K (.ref C) = true) : OexC K C := by
  refine ⟨?_, sa, ex, ty, k⟩
  unfold oexIn at q
  split at q
  · rename_i dd cd sl ho
    split at q
    · rename_i C' bm k0 k1 k2 k3 n k5 hm hs
      simp only [Bool.and_eq_true, Bool.not_eq_true', beq_iff_eq] at q
      obtain ⟨⟨⟨⟨rfl, rfl⟩, hd⟩, hdi⟩, hr⟩ := q
      obtain ⟨nm, bs, mro, ns, qn, hdct, sn, sb, ab, col, del⟩ := cd
      dsimp only at hm hd hdi
      subst hm hd hdi
      refine ⟨nm, qn, ns, bs, bm, sn, sb, ab, col, dd, k0, k1, k2, k3, k5, ?_, hr⟩
      rw [ho]
      have : sl = #[k0, k1, k2, k3, some (.builtin "ValueError.__new__"), k5] := by
        rw [← hs]
      rw [this]
    · cases q
  · cases q
/-- caught classes, one by one -/
def KAll (K : PySem.W.Frag) (mg : Str → Option Value) (c : Value) : List (Str × Addr) → Prop
  | [] => True
  | p :: r => mg p.1 = some (.ref p.2) ∧ PySem.W.exmOne K (.ref p.2) c = some true ∧ KAll K mg c r
theorem k_of {K : PySem.W.Frag} {mg : Str → Option Value} {c : Value} {ns : List Str} : ∀ (l : List (Str × Addr)), l.map (·.1) = ns → KAll K mg c l → ∀ C ∈ ns, ∀ Ca, mg C = some (.ref Ca) → PySem.W.exmOne K (.ref Ca) c = some true
  | [], e, _ => fun C h => by rw [← e] at h; cases h
  | (n, a) :: r, e, h => fun C hC Ca hCa => by
    rw [← e] at hC
    obtain ⟨h1, h2, h3⟩ := h
    rcases List.mem_cons.mp hC with z | z
    · rw [z] at hCa
      cases h1.symm.trans hCa
      exact h2
    · exact k_of r rfl h3 C z Ca hCa
end Py

set_option Elab.async false
set_option linter.all false
set_option maxRecDepth 100000
set_option maxHeartbeats 1000000
/-! methods of texts; int of a text -/
namespace Py
open PySem PySem.Spec PyProof.Rows L2
def gPartition : D → MF
  | .str a, [.str b] => need ((b.length == 0) = false ∧ a.length ≤ sizeLine) (giv (.tup [.str (Txt.partition a b).1, .str (Txt.partition a b).2.1, .str (Txt.partition a b).2.2]))
  | _, _ => fail
def gSplitS (o : Bool) : D → MF
  | .str a, [.str b] => need ((b.length == 0) = false ∧ a.length + 2 ≤ sizeLine) (mkL o ((Txt.split a b).map .str))
  | _, _ => fail
def gRemovePrefix : D → MF
  | .str a, [.str b] => need (a.length ≤ sizeLine) (giv (.str (Txt.removeprefix a b)))
  | _, _ => fail
def gIsascii : D → MF
  | .str a, [] => giv (.bl (Txt.isascii a))
  | _, _ => fail
def gIsdigit : D → MF
  | .str a, [] => giv (.bl (Txt.isdigit a))
  | _, _ => fail
def gStartswith : D → MF
  | .str a, [.str b] => giv (.bl (Txt.startswith a b))
  | .str a, [.str b, .int i] => giv (.bl (Txt.startswith3 a b i))
  | _, _ => fail
def gFindS : D → MF
  | .str a, [.str b] => giv (.int (Txt.find a b))
  | .str a, [.str b, .int i] => giv (.int (Txt.find3 a b i))
  | _, _ => fail
def strsD : List D → Option (List Str)
  | [] => some []
  | .str i :: ds => (strsD ds).bind fun is => some (i :: is)
  | _ :: _ => none
theorem strsD_ok : ∀ {ds : List D} {is : List Str}, strsD ds = some is → ds = is.map .str
  | [], is, h => by cases h; rfl
  | d :: ds, is, h => by
    cases d with
    | str x =>
      unfold strsD at h
      obtain ⟨r, h1, h2⟩ := Option.bind_eq_some_iff.mp h
      cases h2
      rw [strsD_ok h1]
      rfl
    | _ => cases h
theorem strsD_map (is : List Str) : strsD (is.map .str) = some is := by
  induction is with
  | nil => rfl
  | cons i is ih =>
    show (strsD (is.map .str)).bind _ = _
    rw [ih]
    rfl
theorem RVs.strsV {K : PySem.W.Frag} {ρ : List Addr} {Z : Zt} {H : Hp} : ∀ {is : List Str} {vs : List V}, RVs K ρ Z H (is.map .str) vs → vs = is.map .str
  | [], _, h => RVs.nil.mp h
  | i :: is, _, h => by
    obtain ⟨x, r, rfl, h2, h3⟩ := RVs.cons.mp h
    rw [RV.str.mp h2, RVs.strsV h3]
    rfl
theorem RVs.ofStrs {K : PySem.W.Frag} {ρ : List Addr} {Z : Zt} {H : Hp} : ∀ (is : List Str), RVs K ρ Z H (is.map .str) (is.map .str)
  | [] => RVs.nil.mpr rfl
  | i :: is => RVs.cons.mpr ⟨_, _, rfl, RV.str.mpr rfl, RVs.ofStrs is⟩
def gJoin : D → MF
  | .str a, [d] => bnd (getQ d) fun ds => opt (strsD ds) fun ys => need ((ys.map (·.length)).sum + ys.length * a.length ≤ 16777216) (giv (.str (Txt.join a ys)))
  | _, _ => fail
section
variable {X : Cx} {W : WX} {pos cpos apos p : Pos} {o e e2 : Expr} {ma : ME} {mas : MA}
theorem om_partition : OM X W (fun x xs H Q => ∃ a b, x = .str a ∧ xs = [.str b] ∧ (b.length == 0) = false ∧ a.length ≤ sizeLine ∧ ∀ p, H p = none → Q (.ref p) (upd H p (.tup [.str (Txt.partition a b).1, .str (Txt.partition a b).2.1, .str (Txt.partition a b).2.2]))) gPartition := by
  intro Z σ ρ H S x v ds vs Q s rx rs q
  unfold gPartition at q
  split at q
  · rename_i a b
    obtain ⟨c, q⟩ := GE.need q
    obtain ⟨w, rfl, r1⟩ := rvs1 rs
    refine ⟨a, b, RV.str.mp rx, by rw [RV.str.mp r1], c.1, c.2, fun p hp => new_tup s ?_ q hp⟩
    exact RVs.cons.mpr ⟨_, _, rfl, RV.str.mpr rfl, RVs.cons.mpr ⟨_, _, rfl, RV.str.mpr rfl, RVs.one (RV.str.mpr rfl)⟩⟩
  · exact q.elim
theorem om_splitS (o : Bool) : OM X W (fun x xs H Q => ∃ a b, x = .str a ∧ xs = [.str b] ∧ (b.length == 0) = false ∧ a.length + 2 ≤ sizeLine ∧ rNewStrs (Txt.split a b) H Q) (gSplitS o) := by
  intro Z σ ρ H S x v ds vs Q s rx rs q
  unfold gSplitS at q
  split at q
  · rename_i a b
    obtain ⟨c, q⟩ := GE.need q
    obtain ⟨w, rfl, r1⟩ := rvs1 rs
    exact ⟨a, b, RV.str.mp rx, by rw [RV.str.mp r1], c.1, c.2, fun p hp => new_lst s (RVs.ofStrs _) q hp⟩
  · exact q.elim
theorem om_removeprefix : OM X W (fun x xs H Q => ∃ a b, x = .str a ∧ xs = [.str b] ∧ a.length ≤ sizeLine ∧ Q (.str (Txt.removeprefix a b)) H) gRemovePrefix := by
  intro Z σ ρ H S x v ds vs Q s rx rs q
  unfold gRemovePrefix at q
  split at q
  · rename_i a b
    obtain ⟨c, q⟩ := GE.need q
    obtain ⟨w, rfl, r1⟩ := rvs1 rs
    exact ⟨a, b, RV.str.mp rx, by rw [RV.str.mp r1], c, q.giv s _ (RV.str.mpr rfl)⟩
  · exact q.elim
theorem om_isascii : OM X W (fun x xs H Q => ∃ a, x = .str a ∧ xs = [] ∧ True ∧ Q (.bl (Txt.isascii a)) H) gIsascii := by
  intro Z σ ρ H S x v ds vs Q s rx rs q
  unfold gIsascii at q
  split at q
  · exact ⟨_, RV.str.mp rx, RVs.nil.mp rs, trivial, q.giv s _ (RV.bl.mpr rfl)⟩
  · exact q.elim
theorem om_isdigit : OM X W (fun x xs H Q => ∃ a, x = .str a ∧ xs = [] ∧ True ∧ Q (.bl (Txt.isdigit a)) H) gIsdigit := by
  intro Z σ ρ H S x v ds vs Q s rx rs q
  unfold gIsdigit at q
  split at q
  · exact ⟨_, RV.str.mp rx, RVs.nil.mp rs, trivial, q.giv s _ (RV.bl.mpr rfl)⟩
  · exact q.elim
abbrev rStartswith : V → List V → Hp → VK → Prop := fun x xs H Q => (∃ a b, x = .str a ∧ xs = [.str b] ∧ Q (.bl (Txt.startswith a b)) H) ∨ (∃ (a b : Str) (i : Int), x = .str a ∧ xs = [.str b, .int i] ∧ Q (.bl (Txt.startswith3 a b i)) H)
abbrev rFindS : V → List V → Hp → VK → Prop := fun x xs H Q => (∃ a b, x = .str a ∧ xs = [.str b] ∧ Q (.int (Txt.find a b)) H) ∨ (∃ (a b : Str) (i : Int), x = .str a ∧ xs = [.str b, .int i] ∧ Q (.int (Txt.find3 a b i)) H)
theorem MtR.or {id : String} {r1 r2 : V → List V → Hp → VK → Prop} (h1 : MtR X id r1) (h2 : MtR X id r2) : MtR X id (fun x xs H Q => r1 x xs H Q ∨ r2 x xs H Q) := fun pins s σ H x xs v us Q I rx rs q => q.elim (h1 pins s σ H x xs v us Q I rx rs) (h2 pins s σ H x xs v us Q I rx rs)
theorem om_startswith : OM X W rStartswith gStartswith := by
  intro Z σ ρ H S x v ds vs Q s rx rs q
  unfold gStartswith at q
  split at q
  · obtain ⟨w, rfl, r1⟩ := rvs1 rs
    exact .inl ⟨_, _, RV.str.mp rx, by rw [RV.str.mp r1], q.giv s _ (RV.bl.mpr rfl)⟩
  · obtain ⟨w, w2, rfl, r1, r2⟩ := rvs2 rs
    exact .inr ⟨_, _, _, RV.str.mp rx, by rw [RV.str.mp r1, RV.int.mp r2], q.giv s _ (RV.bl.mpr rfl)⟩
  · exact q.elim
theorem om_findS : OM X W rFindS gFindS := by
  intro Z σ ρ H S x v ds vs Q s rx rs q
  unfold gFindS at q
  split at q
  · obtain ⟨w, rfl, r1⟩ := rvs1 rs
    exact .inl ⟨_, _, RV.str.mp rx, by rw [RV.str.mp r1], q.giv s _ (RV.int.mpr rfl)⟩
  · obtain ⟨w, w2, rfl, r1, r2⟩ := rvs2 rs
    exact .inr ⟨_, _, _, RV.str.mp rx, by rw [RV.str.mp r1, RV.int.mp r2], q.giv s _ (RV.int.mpr rfl)⟩
  · exact q.elim
theorem om_join : OM X W (fun x xs H Q => ∃ a p, ∃ ys : List Str, x = .str a ∧ xs = [.ref p] ∧ (SqL X.K H p (ys.map V.str) ∨ SqT X.K H p (ys.map V.str)) ∧ (ys.map (·.length)).sum + ys.length * a.length ≤ 16777216 ∧ Q (.str (Txt.join a ys)) H) gJoin := by
  intro Z σ ρ H S x v ds vs Q s rx rs q
  cases x with
  | str a =>
    match ds, q with
    | [d], q =>
      obtain ⟨w, rfl, r1⟩ := rvs1 rs
      obtain ⟨ds, b, xs, rfl, h2, h3, q2⟩ := GE.getQ s r1 (show GE X W Z σ ρ H (bnd (getQ d) (fun ds => opt (strsD ds) fun ys => need ((ys.map (·.length)).sum + ys.length * a.length ≤ 16777216) (giv (D.str (Txt.join a ys)))) S) (qV X Z Q) from q)
      obtain ⟨ys, ey, q3⟩ := GE.opt q2
      obtain ⟨c, q4⟩ := GE.need q3
      rw [strsD_ok ey] at h3
      rw [h3.strsV] at h2
      exact ⟨a, b, ys, RV.str.mp rx, rfl, h2, c, q4.giv s _ (RV.str.mpr rfl)⟩
    | [], q => exact q.elim
    | _ :: _ :: _, q => exact q.elim
  | _ => exact q.elim
theorem se_partition (ho : SE X W o ma) (ha : SA X W [e] mas) (hbase : attributeBase o "partition" X.env (eval o X.env) = eval o X.env := by rfl)
    (hfew : ((backTo cpos (starEach [e] X.env)).all (fun x => !x.1) && (backToKw cpos (keywordEach [] X.env)).all (fun x => x.1.isSome) && decide (([e] : List Expr).length + ([] : List Keyword).length + (if ([] : List Keyword).isEmpty then 0 else 1) < 30)) = true := by rfl)
    (hline : (apos.endLine == cpos.line) = true := by rfl) (hs : starEach [e] X.env = (false, eval e X.env) :: starEach [] X.env := by rfl) (hplain : (backTo cpos (starEach [] X.env)).any (·.1) = false := by rfl) : SE X W (.Call (.Attribute o "partition" apos) [e] [] cpos) (mMe "str" gPartition ma mas) :=
  se_me PySem.F.plainAttrs_str PySem.F.slot_str_partition PySem.F.type_str_partition mt_partition om_partition ho ha hbase hfew hline hs hplain
theorem se_split (opt : Bool) (ho : SE X W o ma) (ha : SA X W [e] mas) (hbase : attributeBase o "split" X.env (eval o X.env) = eval o X.env := by rfl)
    (hfew : ((backTo cpos (starEach [e] X.env)).all (fun x => !x.1) && (backToKw cpos (keywordEach [] X.env)).all (fun x => x.1.isSome) && decide (([e] : List Expr).length + ([] : List Keyword).length + (if ([] : List Keyword).isEmpty then 0 else 1) < 30)) = true := by rfl)
    (hline : (apos.endLine == cpos.line) = true := by rfl) (hs : starEach [e] X.env = (false, eval e X.env) :: starEach [] X.env := by rfl) (hplain : (backTo cpos (starEach [] X.env)).any (·.1) = false := by rfl) : SE X W (.Call (.Attribute o "split" apos) [e] [] cpos) (mMe "str" (gSplitS opt) ma mas) :=
  se_me PySem.F.plainAttrs_str PySem.F.slot_str_split PySem.F.type_str_split mt_split (om_splitS opt) ho ha hbase hfew hline hs hplain
theorem se_removeprefix (ho : SE X W o ma) (ha : SA X W [e] mas) (hbase : attributeBase o "removeprefix" X.env (eval o X.env) = eval o X.env := by rfl)
    (hfew : ((backTo cpos (starEach [e] X.env)).all (fun x => !x.1) && (backToKw cpos (keywordEach [] X.env)).all (fun x => x.1.isSome) && decide (([e] : List Expr).length + ([] : List Keyword).length + (if ([] : List Keyword).isEmpty then 0 else 1) < 30)) = true := by rfl)
    (hline : (apos.endLine == cpos.line) = true := by rfl) (hs : starEach [e] X.env = (false, eval e X.env) :: starEach [] X.env := by rfl) (hplain : (backTo cpos (starEach [] X.env)).any (·.1) = false := by rfl) : SE X W (.Call (.Attribute o "removeprefix" apos) [e] [] cpos) (mMe "str" gRemovePrefix ma mas) :=
  se_me PySem.F.plainAttrs_str PySem.F.slot_str_removeprefix PySem.F.type_str_removeprefix mt_removeprefix om_removeprefix ho ha hbase hfew hline hs hplain
theorem se_isascii (ho : SE X W o ma) (hbase : attributeBase o "isascii" X.env (eval o X.env) = eval o X.env := by rfl) (hline : (apos.endLine == cpos.line) = true := by rfl) : SE X W (.Call (.Attribute o "isascii" apos) [] [] cpos) (mMe0 "str" gIsascii ma) :=
  se_me0 PySem.F.plainAttrs_str PySem.F.slot_str_isascii PySem.F.type_str_isascii mt_isascii om_isascii ho hbase hline
theorem se_isdigit (ho : SE X W o ma) (hbase : attributeBase o "isdigit" X.env (eval o X.env) = eval o X.env := by rfl) (hline : (apos.endLine == cpos.line) = true := by rfl) : SE X W (.Call (.Attribute o "isdigit" apos) [] [] cpos) (mMe0 "str" gIsdigit ma) :=
  se_me0 PySem.F.plainAttrs_str PySem.F.slot_str_isdigit PySem.F.type_str_isdigit mt_isdigit om_isdigit ho hbase hline
theorem se_startswith (ho : SE X W o ma) (ha : SA X W [e] mas) (hbase : attributeBase o "startswith" X.env (eval o X.env) = eval o X.env := by rfl)
    (hfew : ((backTo cpos (starEach [e] X.env)).all (fun x => !x.1) && (backToKw cpos (keywordEach [] X.env)).all (fun x => x.1.isSome) && decide (([e] : List Expr).length + ([] : List Keyword).length + (if ([] : List Keyword).isEmpty then 0 else 1) < 30)) = true := by rfl)
    (hline : (apos.endLine == cpos.line) = true := by rfl) (hs : starEach [e] X.env = (false, eval e X.env) :: starEach [] X.env := by rfl) (hplain : (backTo cpos (starEach [] X.env)).any (·.1) = false := by rfl) : SE X W (.Call (.Attribute o "startswith" apos) [e] [] cpos) (mMe "str" gStartswith ma mas) :=
  se_me PySem.F.plainAttrs_str PySem.F.slot_str_startswith PySem.F.type_str_startswith (MtR.or mt_startswith mt_startswith3) om_startswith ho ha hbase hfew hline hs hplain
theorem se_startswith2 (ho : SE X W o ma) (ha : SA X W [e, e2] mas) (hbase : attributeBase o "startswith" X.env (eval o X.env) = eval o X.env := by rfl)
    (hfew : ((backTo cpos (starEach [e, e2] X.env)).all (fun x => !x.1) && (backToKw cpos (keywordEach [] X.env)).all (fun x => x.1.isSome) && decide (([e, e2] : List Expr).length + ([] : List Keyword).length + (if ([] : List Keyword).isEmpty then 0 else 1) < 30)) = true := by rfl)
    (hline : (apos.endLine == cpos.line) = true := by rfl) (hs : starEach [e, e2] X.env = (false, eval e X.env) :: starEach [e2] X.env := by rfl) (hplain : (backTo cpos (starEach [e2] X.env)).any (·.1) = false := by rfl) : SE X W (.Call (.Attribute o "startswith" apos) [e, e2] [] cpos) (mMe "str" gStartswith ma mas) :=
  se_me PySem.F.plainAttrs_str PySem.F.slot_str_startswith PySem.F.type_str_startswith (MtR.or mt_startswith mt_startswith3) om_startswith ho ha hbase hfew hline hs hplain
theorem se_find (ho : SE X W o ma) (ha : SA X W [e] mas) (hbase : attributeBase o "find" X.env (eval o X.env) = eval o X.env := by rfl)
    (hfew : ((backTo cpos (starEach [e] X.env)).all (fun x => !x.1) && (backToKw cpos (keywordEach [] X.env)).all (fun x => x.1.isSome) && decide (([e] : List Expr).length + ([] : List Keyword).length + (if ([] : List Keyword).isEmpty then 0 else 1) < 30)) = true := by rfl)
    (hline : (apos.endLine == cpos.line) = true := by rfl) (hs : starEach [e] X.env = (false, eval e X.env) :: starEach [] X.env := by rfl) (hplain : (backTo cpos (starEach [] X.env)).any (·.1) = false := by rfl) : SE X W (.Call (.Attribute o "find" apos) [e] [] cpos) (mMe "str" gFindS ma mas) :=
  se_me PySem.F.plainAttrs_str PySem.F.slot_str_find PySem.F.type_str_find (MtR.or mt_find mt_find3) om_findS ho ha hbase hfew hline hs hplain
theorem se_find2 (ho : SE X W o ma) (ha : SA X W [e, e2] mas) (hbase : attributeBase o "find" X.env (eval o X.env) = eval o X.env := by rfl)
    (hfew : ((backTo cpos (starEach [e, e2] X.env)).all (fun x => !x.1) && (backToKw cpos (keywordEach [] X.env)).all (fun x => x.1.isSome) && decide (([e, e2] : List Expr).length + ([] : List Keyword).length + (if ([] : List Keyword).isEmpty then 0 else 1) < 30)) = true := by rfl)
    (hline : (apos.endLine == cpos.line) = true := by rfl) (hs : starEach [e, e2] X.env = (false, eval e X.env) :: starEach [e2] X.env := by rfl) (hplain : (backTo cpos (starEach [e2] X.env)).any (·.1) = false := by rfl) : SE X W (.Call (.Attribute o "find" apos) [e, e2] [] cpos) (mMe "str" gFindS ma mas) :=
  se_me PySem.F.plainAttrs_str PySem.F.slot_str_find PySem.F.type_str_find (MtR.or mt_find mt_find3) om_findS ho ha hbase hfew hline hs hplain
theorem se_join (ho : SE X W o ma) (ha : SA X W [e] mas) (hbase : attributeBase o "join" X.env (eval o X.env) = eval o X.env := by rfl)
    (hfew : ((backTo cpos (starEach [e] X.env)).all (fun x => !x.1) && (backToKw cpos (keywordEach [] X.env)).all (fun x => x.1.isSome) && decide (([e] : List Expr).length + ([] : List Keyword).length + (if ([] : List Keyword).isEmpty then 0 else 1) < 30)) = true := by rfl)
    (hline : (apos.endLine == cpos.line) = true := by rfl) (hs : starEach [e] X.env = (false, eval e X.env) :: starEach [] X.env := by rfl) (hplain : (backTo cpos (starEach [] X.env)).any (·.1) = false := by rfl) : SE X W (.Call (.Attribute o "join" apos) [e] [] cpos) (mMe "str" gJoin ma mas) :=
  se_me PySem.F.plainAttrs_str PySem.F.slot_str_join PySem.F.type_str_join mt_join om_join ho ha hbase hfew hline hs hplain
end
end Py

set_option Elab.async false
set_option linter.all false
set_option maxRecDepth 100000
set_option maxHeartbeats 1000000
/-! * of texts and of lists -/
namespace Py
open PySem PySem.Spec PyProof.Rows L2
def CMulS (z : Str) (n : Int) : Prop := 0 ≤ n ∧ n < 2 ^ 31 ∧ z.length * n.toNat ≤ sizeLine
instance decMulS (z : Str) (n : Int) : Decidable (CMulS z n) := inferInstanceAs (Decidable (0 ≤ n ∧ n < 2 ^ 31 ∧ z.length * n.toNat ≤ sizeLine))
def dMulS : D → D → M D
  | .str z, .int n => need (CMulS z n) (giv (.str (Txt.mul z n)))
  | .rol ds, .int k => need (0 ≤ k ∧ k < 2 ^ 31 ∧ ds.length * k.toNat ≤ sizeLine) (mkL false (List.replicate k.toNat ds).flatten)
  | x, y => dMul x y
theorem mulOk {z : Str} {n : Int} (h : CMulS z n) : MulOk z n := by
  obtain ⟨h1, h2, h3⟩ := h
  refine ⟨by rw [decide_eq_false (by omega), decide_eq_false (by omega)]; rfl, fun a _ => ?_, fun _ _ => ?_⟩
  · have e : ((z.length * n.toNat : Nat) : Int) ≤ (sizeLine : Nat) := by exact_mod_cast h3
    rw [Int.natCast_mul, Int.toNat_of_nonneg h1] at e
    have : ((sizeLine : Nat) : Int) ≤ 2 ^ 63 - 1 := by decide
    intro g
    have := (Int.ediv_lt_iff_lt_mul (a := 2 ^ 63 - 1) (b := (z.length : Int)) (c := n) (by omega)).mp g
    omega
  · unfold Builtin.Str.tooLong
    simp
    omega
theorem op_mul_str {X : Cx} : OpR X (binaryOp .Mult) (fun x y H Q => ∃ z n, x = .str z ∧ y = .int n ∧ MulOk z n ∧ Q (.str (Txt.mul z n)) H) := by
  intro pins s σ H x y v u Q I rx ry h
  obtain ⟨z, n, rfl, rfl, hz, q⟩ := h
  obtain ⟨t, rfl⟩ := rx
  obtain ⟨t', rfl⟩ := ry
  exact SB.mul hz (fun t' tk => ⟨.str _, H, I.tok _, ⟨_, rfl⟩, q⟩)
theorem RVs.rep {K : PySem.W.Frag} {ρ : List Addr} {Z : Zt} {H : Hp} {ds : List D} {xs : List V} (r : RVs K ρ Z H ds xs) : ∀ n, RVs K ρ Z H (List.replicate n ds).flatten (List.replicate n xs).flatten
  | 0 => by simpa using (RVs.nil (K := K) (ρ := ρ) (Z := Z) (H := H)).mpr rfl
  | n + 1 => by rw [List.replicate_succ, List.replicate_succ, List.flatten_cons, List.flatten_cons]; exact r.append (RVs.rep r n)
variable {X : Cx} {W : WX} {pos : Pos} {a b : Expr} {ma mb : ME}
theorem o2_mulS : O2 X W (fun x y H Q => (∃ z n, x = .str z ∧ y = .int n ∧ MulOk z n ∧ Q (.str (Txt.mul z n)) H) ∨ rRep x y H Q ∨ rI CMulW (fun i j => .int (i * j)) x y H Q) dMulS := by
  intro Z σ ρ H S x y v u Q s rv ru q
  cases x with
  | int i =>
    cases y with
    | int j => rw [RV.int.mp rv, RV.int.mp ru]; obtain ⟨c, q⟩ := GE.need q; exact .inr (.inr ⟨i, j, rfl, rfl, c, q.giv s _ (RV.int.mpr rfl)⟩)
    | _ => exact q.elim
  | str z =>
    cases y with
    | int j => rw [RV.str.mp rv, RV.int.mp ru]; obtain ⟨c, q⟩ := GE.need q; exact .inl ⟨z, j, rfl, rfl, mulOk c, q.giv s _ (RV.str.mpr rfl)⟩
    | _ => exact q.elim
  | rol ds =>
    obtain ⟨a, xs, rfl, h2, h3⟩ := RV.rol.mp rv
    cases y with
    | int j =>
      rw [RV.int.mp ru]
      obtain ⟨c, q⟩ := q.need
      exact .inr (.inl ⟨a, j, xs, rfl, rfl, h2.1, by omega, by omega, by rw [h3.length]; exact c.2.2, fun p hp => new_lst s (RVs.rep h3 _) q hp⟩)
    | _ => exact q.elim
  | _ => cases y <;> exact q.elim
theorem se_mulS (ha : SE X W a ma) (hb : SE X W b mb) : SE X W (.BinOp a .Mult b pos) (m2 dMulS ma mb) :=
  se_bin (OpR.or op_mul_str (OpR.or op_rep op_mulW)) o2_mulS ha hb
end Py

set_option Elab.async false
set_option linter.all false
set_option maxRecDepth 100000
set_option maxHeartbeats 4000000
namespace K09
open PySem PySem.Spec PyProof.Rows L2 Py
def topS (i : Nat) : Stmt := PySem.Challenge.pw_foldsheet_k09_tokens.main.body.getD i (.Pass ⟨0, 0, 0, 0⟩)
abbrev s_fraction : Stmt := topS 19
theorem sc_fraction : FnScope ["n", "d", "common"] ["n", "d"] (defScope s_fraction) := ⟨rfl, rfl, rfl, by decide +kernel, rfl, by decide +kernel, by decide +kernel⟩
abbrev s__symbol_at : Stmt := topS 35
theorem sc__symbol_at : FnScope ["text", "place", "symbol"] ["text", "place"] (defScope s__symbol_at) := ⟨rfl, rfl, rfl, by decide +kernel, rfl, by decide +kernel, by decide +kernel⟩
abbrev s__end_of_run : Stmt := topS 30
theorem sc__end_of_run : FnScope ["text", "place", "allowed"] ["text", "place", "allowed"] (defScope s__end_of_run) := ⟨rfl, rfl, rfl, by decide +kernel, rfl, by decide +kernel, by decide +kernel⟩
abbrev s__number_at : Stmt := topS 31
theorem sc__number_at : FnScope ["text", "place", "end", "whole", "decimals", "value"] ["text", "place"] (defScope s__number_at) := ⟨rfl, rfl, rfl, by decide +kernel, rfl, by decide +kernel, by decide +kernel⟩
abbrev s__name_at : Stmt := topS 32
theorem sc__name_at : FnScope ["text", "place", "end", "name"] ["text", "place"] (defScope s__name_at) := ⟨rfl, rfl, rfl, by decide +kernel, rfl, by decide +kernel, by decide +kernel⟩
abbrev s__choice_at : Stmt := topS 33
theorem sc__choice_at : FnScope ["text", "place", "close", "choice"] ["text", "place"] (defScope s__choice_at) := ⟨rfl, rfl, rfl, by decide +kernel, rfl, by decide +kernel, by decide +kernel⟩
abbrev s__above_at : Stmt := topS 34
theorem sc__above_at : FnScope ["text", "place"] ["text", "place"] (defScope s__above_at) := ⟨rfl, rfl, rfl, by decide +kernel, rfl, by decide +kernel, by decide +kernel⟩
abbrev s__token_at : Stmt := topS 29
theorem sc__token_at : FnScope ["text", "place", "first"] ["text", "place"] (defScope s__token_at) := ⟨rfl, rfl, rfl, by decide +kernel, rfl, by decide +kernel, by decide +kernel⟩
abbrev s_split_text : Stmt := topS 28
theorem sc_split_text : FnScope ["text", "tokens", "place", "kind", "value", "end"] ["text"] (defScope s_split_text) := ⟨rfl, rfl, rfl, by decide +kernel, rfl, by decide +kernel, by decide +kernel⟩
abbrev s__law_tape : Stmt := topS 37
theorem sc__law_tape : FnScope ["script", "total", "cell"] ["script"] (defScope s__law_tape) := ⟨rfl, rfl, rfl, by decide +kernel, rfl, by decide +kernel, by decide +kernel⟩
abbrev s__law_draw : Stmt := topS 38
theorem sc__law_draw : FnScope ["tape", "many", "number", "place"] ["tape", "many"] (defScope s__law_draw) := ⟨rfl, rfl, rfl, by decide +kernel, rfl, by decide +kernel, by decide +kernel⟩
abbrev s__law_pick : Stmt := topS 39
theorem sc__law_pick : FnScope ["tape", "row"] ["tape", "row"] (defScope s__law_pick) := ⟨rfl, rfl, rfl, by decide +kernel, rfl, by decide +kernel, by decide +kernel⟩
abbrev s__law_same : Stmt := topS 40
theorem sc__law_same : FnScope ["actual", "expected", "k"] ["actual", "expected"] (defScope s__law_same) := ⟨rfl, rfl, rfl, by decide +kernel, rfl, by decide +kernel, by decide +kernel⟩
abbrev s__law_single : Stmt := topS 41
theorem sc__law_single : FnScope ["e", "found"] ["e"] (defScope s__law_single) := ⟨rfl, rfl, rfl, by decide +kernel, rfl, by decide +kernel, by decide +kernel⟩
abbrev s__law_gcd : Stmt := topS 42
theorem sc__law_gcd : FnScope ["a", "b", "rest"] ["a", "b"] (defScope s__law_gcd) := ⟨rfl, rfl, rfl, by decide +kernel, rfl, by decide +kernel, by decide +kernel⟩
abbrev s__law_fraction : Stmt := topS 43
theorem sc__law_fraction : FnScope ["n", "d", "g"] ["n", "d"] (defScope s__law_fraction) := ⟨rfl, rfl, rfl, by decide +kernel, rfl, by decide +kernel, by decide +kernel⟩
abbrev s__law_end_of : Stmt := topS 44
theorem sc__law_end_of : FnScope ["text", "at", "signs", "k"] ["text", "at", "signs"] (defScope s__law_end_of) := ⟨rfl, rfl, rfl, by decide +kernel, rfl, by decide +kernel, by decide +kernel⟩
abbrev s__law_number_token : Stmt := topS 45
theorem sc__law_number_token : FnScope ["text", "at", "figures", "end", "digits", "power", "point", "k"] ["text", "at"] (defScope s__law_number_token) := ⟨rfl, rfl, rfl, by decide +kernel, rfl, by decide +kernel, by decide +kernel⟩
abbrev s__law_token : Stmt := topS 46
theorem sc__law_token : FnScope ["text", "at", "letters", "sign", "end", "word"] ["text", "at"] (defScope s__law_token) := ⟨rfl, rfl, rfl, by decide +kernel, rfl, by decide +kernel, by decide +kernel⟩
abbrev s__law_split : Stmt := topS 47
theorem sc__law_split : FnScope ["text", "tokens", "at", "k", "token"] ["text"] (defScope s__law_split) := ⟨rfl, rfl, rfl, by decide +kernel, rfl, by decide +kernel, by decide +kernel⟩
abbrev s__law_piece : Stmt := topS 48
theorem sc__law_piece : FnScope ["tape", "letters", "choice"] ["tape"] (defScope s__law_piece) := ⟨rfl, rfl, rfl, by decide +kernel, rfl, by decide +kernel, by decide +kernel⟩
abbrev s__law_flaw : Stmt := topS 49
theorem sc__law_flaw : FnScope ["tape", "flaws", "signs", "sign"] ["tape"] (defScope s__law_flaw) := ⟨rfl, rfl, rfl, by decide +kernel, rfl, by decide +kernel, by decide +kernel⟩
abbrev s__law_split_alike : Stmt := topS 50
theorem sc__law_split_alike : FnScope ["text", "due", "e", "told", "alike"] ["text"] (defScope s__law_split_alike) := ⟨rfl, rfl, rfl, by decide +kernel, rfl, by decide +kernel, by decide +kernel⟩
abbrev s_law : Stmt := topS 51
theorem sc_law : FnScope ["script", "tape", "texts", "k", "start", "at", "text", "j"] ["script"] (defScope s_law) := ⟨rfl, rfl, rfl, by decide +kernel, rfl, by decide +kernel, by decide +kernel⟩
def clsS_FormulaError : Stmt → Stmt
  | .ClassDef (body := b) .. => b.getD 0 (.Pass ⟨0, 0, 0, 0⟩)
  | s => s
abbrev s_FormulaError : Stmt := clsS_FormulaError (topS 4)
theorem sc_FormulaError : FnScope ["self", "place", "reason"] ["self", "place", "reason"] (defScope s_FormulaError) := ⟨rfl, rfl, rfl, by decide +kernel, rfl, by decide +kernel, by decide +kernel⟩
structure Txt (K : PySem.W.Frag) (mg : Str → Option Value) where
  a_fraction : Addr
  d_fraction : FuncData
  F_fraction : Fun K "fraction" "fraction" s_fraction a_fraction d_fraction
  b_fraction : Binds K d_fraction ["n", "d"] []
  g_fraction : mg "fraction" = some (.ref a_fraction)
  a_split_text : Addr
  d_split_text : FuncData
  F_split_text : Fun K "split_text" "split_text" s_split_text a_split_text d_split_text
  b_split_text : Binds K d_split_text ["text"] []
  g_split_text : mg "split_text" = some (.ref a_split_text)
  a__token_at : Addr
  d__token_at : FuncData
  F__token_at : Fun K "_token_at" "_token_at" s__token_at a__token_at d__token_at
  b__token_at : Binds K d__token_at ["text", "place"] []
  g__token_at : mg "_token_at" = some (.ref a__token_at)
  a__end_of_run : Addr
  d__end_of_run : FuncData
  F__end_of_run : Fun K "_end_of_run" "_end_of_run" s__end_of_run a__end_of_run d__end_of_run
  b__end_of_run : Binds K d__end_of_run ["text", "place", "allowed"] []
  g__end_of_run : mg "_end_of_run" = some (.ref a__end_of_run)
  a__number_at : Addr
  d__number_at : FuncData
  F__number_at : Fun K "_number_at" "_number_at" s__number_at a__number_at d__number_at
  b__number_at : Binds K d__number_at ["text", "place"] []
  g__number_at : mg "_number_at" = some (.ref a__number_at)
  a__name_at : Addr
  d__name_at : FuncData
  F__name_at : Fun K "_name_at" "_name_at" s__name_at a__name_at d__name_at
  b__name_at : Binds K d__name_at ["text", "place"] []
  g__name_at : mg "_name_at" = some (.ref a__name_at)
  a__choice_at : Addr
  d__choice_at : FuncData
  F__choice_at : Fun K "_choice_at" "_choice_at" s__choice_at a__choice_at d__choice_at
  b__choice_at : Binds K d__choice_at ["text", "place"] []
  g__choice_at : mg "_choice_at" = some (.ref a__choice_at)
  a__above_at : Addr
  d__above_at : FuncData
  F__above_at : Fun K "_above_at" "_above_at" s__above_at a__above_at d__above_at
  b__above_at : Binds K d__above_at ["text", "place"] []
  g__above_at : mg "_above_at" = some (.ref a__above_at)
  a__symbol_at : Addr
  d__symbol_at : FuncData
  F__symbol_at : Fun K "_symbol_at" "_symbol_at" s__symbol_at a__symbol_at d__symbol_at
  b__symbol_at : Binds K d__symbol_at ["text", "place"] []
  g__symbol_at : mg "_symbol_at" = some (.ref a__symbol_at)
  a__law_tape : Addr
  d__law_tape : FuncData
  F__law_tape : Fun K "_law_tape" "_law_tape" s__law_tape a__law_tape d__law_tape
  b__law_tape : Binds K d__law_tape ["script"] []
  g__law_tape : mg "_law_tape" = some (.ref a__law_tape)
  a__law_draw : Addr
  d__law_draw : FuncData
  F__law_draw : Fun K "_law_draw" "_law_draw" s__law_draw a__law_draw d__law_draw
  b__law_draw : Binds K d__law_draw ["tape", "many"] []
  g__law_draw : mg "_law_draw" = some (.ref a__law_draw)
  a__law_pick : Addr
  d__law_pick : FuncData
  F__law_pick : Fun K "_law_pick" "_law_pick" s__law_pick a__law_pick d__law_pick
  b__law_pick : Binds K d__law_pick ["tape", "row"] []
  g__law_pick : mg "_law_pick" = some (.ref a__law_pick)
  a__law_same : Addr
  d__law_same : FuncData
  F__law_same : Fun K "_law_same" "_law_same" s__law_same a__law_same d__law_same
  b__law_same : Binds K d__law_same ["actual", "expected"] []
  g__law_same : mg "_law_same" = some (.ref a__law_same)
  a__law_single : Addr
  d__law_single : FuncData
  F__law_single : Fun K "_law_single" "_law_single" s__law_single a__law_single d__law_single
  b__law_single : Binds K d__law_single ["e"] []
  g__law_single : mg "_law_single" = some (.ref a__law_single)
  a__law_gcd : Addr
  d__law_gcd : FuncData
  F__law_gcd : Fun K "_law_gcd" "_law_gcd" s__law_gcd a__law_gcd d__law_gcd
  b__law_gcd : Binds K d__law_gcd ["a", "b"] []
  g__law_gcd : mg "_law_gcd" = some (.ref a__law_gcd)
  a__law_fraction : Addr
  d__law_fraction : FuncData
  F__law_fraction : Fun K "_law_fraction" "_law_fraction" s__law_fraction a__law_fraction d__law_fraction
  b__law_fraction : Binds K d__law_fraction ["n", "d"] []
  g__law_fraction : mg "_law_fraction" = some (.ref a__law_fraction)
  a__law_end_of : Addr
  d__law_end_of : FuncData
  F__law_end_of : Fun K "_law_end_of" "_law_end_of" s__law_end_of a__law_end_of d__law_end_of
  b__law_end_of : Binds K d__law_end_of ["text", "at", "signs"] []
  g__law_end_of : mg "_law_end_of" = some (.ref a__law_end_of)
  a__law_number_token : Addr
  d__law_number_token : FuncData
  F__law_number_token : Fun K "_law_number_token" "_law_number_token" s__law_number_token a__law_number_token d__law_number_token
  b__law_number_token : Binds K d__law_number_token ["text", "at"] []
  g__law_number_token : mg "_law_number_token" = some (.ref a__law_number_token)
  a__law_token : Addr
  d__law_token : FuncData
  F__law_token : Fun K "_law_token" "_law_token" s__law_token a__law_token d__law_token
  b__law_token : Binds K d__law_token ["text", "at"] []
  g__law_token : mg "_law_token" = some (.ref a__law_token)
  a__law_split : Addr
  d__law_split : FuncData
  F__law_split : Fun K "_law_split" "_law_split" s__law_split a__law_split d__law_split
  b__law_split : Binds K d__law_split ["text"] []
  g__law_split : mg "_law_split" = some (.ref a__law_split)
  a__law_piece : Addr
  d__law_piece : FuncData
  F__law_piece : Fun K "_law_piece" "_law_piece" s__law_piece a__law_piece d__law_piece
  b__law_piece : Binds K d__law_piece ["tape"] []
  g__law_piece : mg "_law_piece" = some (.ref a__law_piece)
  a__law_flaw : Addr
  d__law_flaw : FuncData
  F__law_flaw : Fun K "_law_flaw" "_law_flaw" s__law_flaw a__law_flaw d__law_flaw
  b__law_flaw : Binds K d__law_flaw ["tape"] []
  g__law_flaw : mg "_law_flaw" = some (.ref a__law_flaw)
  a__law_split_alike : Addr
  d__law_split_alike : FuncData
  F__law_split_alike : Fun K "_law_split_alike" "_law_split_alike" s__law_split_alike a__law_split_alike d__law_split_alike
  b__law_split_alike : Binds K d__law_split_alike ["text"] []
  g__law_split_alike : mg "_law_split_alike" = some (.ref a__law_split_alike)
  a_law : Addr
  d_law : FuncData
  F_law : Fun K "law" "law" s_law a_law d_law
  b_law : Binds K d_law ["script"] []
  g_law : mg "law" = some (.ref a_law)
  cl_FractionError : Addr
  gc_FractionError : mg "FractionError" = some (.ref cl_FractionError)
  cl_FormulaError : Addr
  gc_FormulaError : mg "FormulaError" = some (.ref cl_FormulaError)
  cl_DefinitionError : Addr
  gc_DefinitionError : mg "DefinitionError" = some (.ref cl_DefinitionError)
  cl_TooLarge : Addr
  gc_TooLarge : mg "TooLarge" = some (.ref cl_TooLarge)
  cl_InputsDiffer : Addr
  gc_InputsDiffer : mg "InputsDiffer" = some (.ref cl_InputsDiffer)
  cl_BadPlace : Addr
  gc_BadPlace : mg "BadPlace" = some (.ref cl_BadPlace)
  cl_IsFold : Addr
  gc_IsFold : mg "IsFold" = some (.ref cl_IsFold)
  cl_TooMany : Addr
  gc_TooMany : mg "TooMany" = some (.ref cl_TooMany)
  cl_NothingToFold : Addr
  gc_NothingToFold : mg "NothingToFold" = some (.ref cl_NothingToFold)
  cl_NothingToUndo : Addr
  gc_NothingToUndo : mg "NothingToUndo" = some (.ref cl_NothingToUndo)
  cl_NothingToRedo : Addr
  gc_NothingToRedo : mg "NothingToRedo" = some (.ref cl_NothingToRedo)
  cl_NotDetermined : Addr
  gc_NotDetermined : mg "NotDetermined" = some (.ref cl_NotDetermined)
  cl_NotConverted : Addr
  gc_NotConverted : mg "NotConverted" = some (.ref cl_NotConverted)
  cl_BadFile : Addr
  gc_BadFile : mg "BadFile" = some (.ref cl_BadFile)
  cl_SheetError : Addr
  gc_SheetError : mg "SheetError" = some (.ref cl_SheetError)
  q_FormulaError : EQ K mg "FormulaError"
  i_FormulaError : EI K mg "FormulaError" ["place", "reason"]
  F_FormulaError : Fun K "__init__" "FormulaError.__init__" s_FormulaError i_FormulaError.f i_FormulaError.fd
  b_FormulaError : Binds K i_FormulaError.fd ["self", "place", "reason"] []
  n_FormulaError_place : PySem.W.findIn K (.ref q_FormulaError.C) "place" = some none
  n_FormulaError_reason : PySem.W.findIn K (.ref q_FormulaError.C) "reason" = some none
  x_FormulaError_FractionError : PySem.W.kitOne K (.ref q_FormulaError.C) (.ref cl_FractionError) = some false
  x_FormulaError_FormulaError : PySem.W.kitOne K (.ref q_FormulaError.C) (.ref cl_FormulaError) = some true
  x_FormulaError_DefinitionError : PySem.W.kitOne K (.ref q_FormulaError.C) (.ref cl_DefinitionError) = some false
  x_FormulaError_TooLarge : PySem.W.kitOne K (.ref q_FormulaError.C) (.ref cl_TooLarge) = some false
  x_FormulaError_InputsDiffer : PySem.W.kitOne K (.ref q_FormulaError.C) (.ref cl_InputsDiffer) = some false
  x_FormulaError_BadPlace : PySem.W.kitOne K (.ref q_FormulaError.C) (.ref cl_BadPlace) = some false
  x_FormulaError_IsFold : PySem.W.kitOne K (.ref q_FormulaError.C) (.ref cl_IsFold) = some false
  x_FormulaError_TooMany : PySem.W.kitOne K (.ref q_FormulaError.C) (.ref cl_TooMany) = some false
  x_FormulaError_NothingToFold : PySem.W.kitOne K (.ref q_FormulaError.C) (.ref cl_NothingToFold) = some false
  x_FormulaError_NothingToUndo : PySem.W.kitOne K (.ref q_FormulaError.C) (.ref cl_NothingToUndo) = some false
  x_FormulaError_NothingToRedo : PySem.W.kitOne K (.ref q_FormulaError.C) (.ref cl_NothingToRedo) = some false
  x_FormulaError_NotDetermined : PySem.W.kitOne K (.ref q_FormulaError.C) (.ref cl_NotDetermined) = some false
  x_FormulaError_NotConverted : PySem.W.kitOne K (.ref q_FormulaError.C) (.ref cl_NotConverted) = some false
  x_FormulaError_BadFile : PySem.W.kitOne K (.ref q_FormulaError.C) (.ref cl_BadFile) = some false
  x_FormulaError_SheetError : PySem.W.kitOne K (.ref q_FormulaError.C) (.ref cl_SheetError) = some true
  x_FormulaError_ValueError : PySem.W.kitOne K (.ref q_FormulaError.C) (.type "ValueError") = some true
  k_SheetError : ∀ C ∈ (["FormulaError"] : List Str), ∀ Ca, mg C = some (.ref Ca) → PySem.W.exmOne K (.ref Ca) (.ref cl_SheetError) = some true
  z_len : mg "len" = none
  z_int : mg "int" = none
  z_tuple : mg "tuple" = none
  z_abs : mg "abs" = none
  z_list : mg "list" = none
  z_max : mg "max" = none
  z_isinstance : mg "isinstance" = none
  z_range : mg "range" = none
  z_bool : mg "bool" = none
  z_str : mg "str" = none
  z_ValueError : mg "ValueError" = none
  z_min : mg "min" = none
  q_gcd : mg "gcd" = some (.builtin "math.gcd")
  c_LONG_SYMBOLS : GC K mg "LONG_SYMBOLS" (.tup [(.str "<="), (.str "<>"), (.str ">=")])
  c_SHORT_SYMBOLS : GC K mg "SHORT_SYMBOLS" (.tup [(.str "("), (.str ")"), (.str ","), (.str "+"), (.str "-"), (.str "*"), (.str "/"), (.str "<"), (.str "="), (.str ">")])
  c_DIGITS : GC K mg "DIGITS" (.str "0123456789")
  c_MOST_DIGITS : GC K mg "MOST_DIGITS" (.int 9)
  c_LETTERS : GC K mg "LETTERS" (.str "ABCDEFGHIJKLMNOPQRSTUVWXYZabcdefghijklmnopqrstuvwxyz")
  c_MOST_CHARACTERS : GC K mg "MOST_CHARACTERS" (.int 20)
  c_RESERVED_WORDS : GC K mg "RESERVED_WORDS" (.tup [(.str "if"), (.str "and"), (.str "or"), (.str "not"), (.str "sum"), (.str "last"), (.str "floor")])
  c_ABOVE : GC K mg "ABOVE" (.str "[-1]")
noncomputable def L__symbol_at_1 : MS := (sIf (mT (mMe "str" gStartswith (mSlot 0) (mCons (mSlot 2) (mCons (mSlot 1) mNil)))) (sRet (mTup (mCons (mC (.str "symbol")) (mCons (mSlot 2) (mCons (m2 (dAdd false) (mSlot 1) (mF gLen (mCons (mSlot 2) mNil))) mNil))))) sNil)
noncomputable def m__symbol_at : MF := mDef 3 (
    (sSeq (sFor (iE srcT (m2 (dAdd false) (mC (.tup [(.str "<="), (.str "<>"), (.str ">=")])) (mC (.tup [(.str "("), (.str ")"), (.str ","), (.str "+"), (.str "-"), (.str "*"), (.str "/"), (.str "<"), (.str "="), (.str ">")])))) (gNm 2) L__symbol_at_1)
    (sRaiseI "FormulaError" ["place", "reason"] (mCons (mSlot 1) (mCons (mC (.str "character")) mNil)))))
noncomputable def L__end_of_run_1 : MS := (sAug 1 dInc (mC (.int 1)))
noncomputable def m__end_of_run : MF := mDef 3 (
    (sSeq (sWhile (mAnd (mB (m2 (dCmp fun i j => decide (i < j)) (mSlot 1) (mF gLen (mCons (mSlot 0) mNil)))) (mB (m2 (dIn false) (m2 dIx (mSlot 0) (mSlot 1)) (mSlot 2)))) L__end_of_run_1)
    (sRet (mSlot 1))))
noncomputable def m__number_at : MF := mDef 6 (
    (sSeq (sSet 2 (mCall 3 m__end_of_run (mCons (mSlot 0) (mCons (mSlot 1) (mCons (mC (.str "0123456789")) mNil)))))
    (sSeq (sSet 3 (mSl false (mSlot 0) (moSome (mSlot 1)) (moSome (mSlot 2))))
    (sSeq (sSet 4 (mC (.str "")))
    (sSeq (sIf (mT (mMe "str" gStartswith (mSlot 0) (mCons (mC (.str ".")) (mCons (mSlot 2) mNil)))) (sSet 4 (mSl false (mSlot 0) (moSome (m2 (dAdd false) (mSlot 2) (mC (.int 1)))) (moSome (mCall 3 m__end_of_run (mCons (mSlot 0) (mCons (m2 (dAdd false) (mSlot 2) (mC (.int 1))) (mCons (mC (.str "0123456789")) mNil))))))) sNil)
    (sSeq (sIf (mT (mSlot 4)) (sAug 2 dInc (m2 (dAdd false) (mC (.int 1)) (mF gLen (mCons (mSlot 4) mNil)))) sNil)
    (sSeq (sIf (mB (m2 (dCmp fun i j => decide (j < i)) (mF gLen (mCons (m2 (dAdd false) (mSlot 3) (mSlot 4)) mNil)) (mC (.int 9)))) (sRaiseI "FormulaError" ["place", "reason"] (mCons (mSlot 1) (mCons (mC (.str "digits")) mNil))) sNil)
    (sSeq (sSet 5 (mCall 2 m_fraction (mCons (mF gInt (mCons (m2 (dAdd false) (mSlot 3) (mSlot 4)) mNil)) (mCons (mF gInt (mCons (m2 (dAdd false) (mC (.str "1")) (m2 dMulS (mC (.str "0")) (mF gLen (mCons (mSlot 4) mNil)))) mNil)) mNil))))
    (sRet (mTup (mCons (mC (.str "number")) (mCons (mSlot 5) (mCons (mSlot 2) mNil)))))))))))))
noncomputable def m__name_at : MF := mDef 4 (
    (sSeq (sSet 2 (mCall 3 m__end_of_run (mCons (mSlot 0) (mCons (mSlot 1) (mCons (m2 (dAdd false) (mC (.str "ABCDEFGHIJKLMNOPQRSTUVWXYZabcdefghijklmnopqrstuvwxyz")) (mC (.str "0123456789"))) mNil)))))
    (sSeq (sSet 3 (mSl false (mSlot 0) (moSome (mSlot 1)) (moSome (mSlot 2))))
    (sSeq (sIf (mB (m2 (dCmp fun i j => decide (j < i)) (mF gLen (mCons (mSlot 3) mNil)) (mC (.int 20)))) (sRaiseI "FormulaError" ["place", "reason"] (mCons (mSlot 1) (mCons (mC (.str "name")) mNil))) sNil)
    (sSeq (sIf (mB (m2 (dIn false) (mSlot 3) (mC (.tup [(.str "if"), (.str "and"), (.str "or"), (.str "not"), (.str "sum"), (.str "last"), (.str "floor")])))) (sRet (mTup (mCons (mC (.str "word")) (mCons (mSlot 3) (mCons (mSlot 2) mNil))))) sNil)
    (sRet (mTup (mCons (mC (.str "name")) (mCons (mSlot 3) (mCons (mSlot 2) mNil))))))))))
noncomputable def m__choice_at : MF := mDef 4 (
    (sSeq (sSet 2 (mMe "str" gFindS (mSlot 0) (mCons (mC (.str "\"")) (mCons (m2 (dAdd false) (mSlot 1) (mC (.int 1))) mNil))))
    (sSeq (sSet 3 (mSl false (mSlot 0) (moSome (m2 (dAdd false) (mSlot 1) (mC (.int 1)))) (moSome (mSlot 2))))
    (sSeq (sIf (mOr (mB (m2 (dCmp fun i j => decide (i < j)) (mSlot 2) (mC (.int 0)))) (mNot (mB (mChain (dCmp fun i j => decide (i ≤ j)) (dCmp fun i j => decide (i ≤ j)) (mC (.int 1)) (mF gLen (mCons (mSlot 3) mNil)) (mC (.int 20)))))) (sRaiseI "FormulaError" ["place", "reason"] (mCons (mSlot 1) (mCons (mC (.str "choice")) mNil))) sNil)
    (sRet (mTup (mCons (mC (.str "choice")) (mCons (mSlot 3) (mCons (m2 (dAdd false) (mSlot 2) (mC (.int 1))) mNil)))))))))
noncomputable def m__above_at : MF := mDef 2 (
    (sSeq (sIf (mNot (mT (mMe "str" gStartswith (mSlot 0) (mCons (mC (.str "[-1]")) (mCons (mSlot 1) mNil))))) (sRaiseI "FormulaError" ["place", "reason"] (mCons (mSlot 1) (mCons (mC (.str "above")) mNil))) sNil)
    (sRet (mTup (mCons (mC (.str "above")) (mCons (mC (.str "[-1]")) (mCons (m2 (dAdd false) (mSlot 1) (mF gLen (mCons (mC (.str "[-1]")) mNil))) mNil)))))))
noncomputable def m__token_at : MF := mDef 3 (
    (sSeq (sSet 2 (m2 dIx (mSlot 0) (mSlot 1)))
    (sSeq (sIf (mB (m2 (dIn false) (mSlot 2) (mC (.str "0123456789")))) (sRet (mCall 2 m__number_at (mCons (mSlot 0) (mCons (mSlot 1) mNil)))) sNil)
    (sSeq (sIf (mB (m2 (dIn false) (mSlot 2) (mC (.str "ABCDEFGHIJKLMNOPQRSTUVWXYZabcdefghijklmnopqrstuvwxyz")))) (sRet (mCall 2 m__name_at (mCons (mSlot 0) (mCons (mSlot 1) mNil)))) sNil)
    (sSeq (sIf (mB (m2 dEq (mSlot 2) (mC (.str "\"")))) (sRet (mCall 2 m__choice_at (mCons (mSlot 0) (mCons (mSlot 1) mNil)))) sNil)
    (sSeq (sIf (mB (m2 dEq (mSlot 2) (mC (.str "[")))) (sRet (mCall 2 m__above_at (mCons (mSlot 0) (mCons (mSlot 1) mNil)))) sNil)
    (sRet (mCall 2 m__symbol_at (mCons (mSlot 0) (mCons (mSlot 1) mNil))))))))))
noncomputable def L_split_text_1 : MS := (sIf (mB (m2 dEq (m2 dIx (mSlot 0) (mSlot 2)) (mC (.str " ")))) (sAug 2 dInc (mC (.int 1))) (sSeq (sAsg (mCall 2 m__token_at (mCons (mSlot 0) (mCons (mSlot 2) mNil))) (gTp 3 (gsCons (gNm 3) (gsCons (gNm 4) (gsCons (gNm 5) gsNil)))))
    (sSeq (sExp (mMe "list" gAppend (mSlot 1) (mCons (mTup (mCons (mSlot 2) (mCons (mSlot 3) (mCons (mSlot 4) mNil)))) mNil)))
    (sSet 2 (mSlot 5)))))
noncomputable def m_split_text : MF := mDef 6 (
    (sSeq (sSet 1 (mLst true mNil))
    (sSeq (sSet 2 (mC (.int 0)))
    (sSeq (sWhile (mB (m2 (dCmp fun i j => decide (i < j)) (mSlot 2) (mF gLen (mCons (mSlot 0) mNil)))) L_split_text_1)
    (sRet (mF gTuple (mCons (mSlot 1) mNil)))))))
noncomputable def m__law_single : MF := mDef 2 (
    (sSeq (sSet 1 (mLst false (mCons (mIsX [("FormulaError", false)] (mSlot 0)) (mCons (mIsX [("FormulaError", true)] (mSlot 0)) (mCons (mIsX [("FormulaError", false)] (mSlot 0)) mNil)))))
    (sSeq (sSet 1 (m2 (dAdd false) (mSlot 1) (mLst false (mCons (mIsX [("FormulaError", false)] (mSlot 0)) (mCons (mIsX [("FormulaError", false)] (mSlot 0)) (mCons (mIsX [("FormulaError", false)] (mSlot 0)) mNil))))))
    (sSeq (sSet 1 (m2 (dAdd false) (mSlot 1) (mLst false (mCons (mIsX [("FormulaError", false)] (mSlot 0)) (mCons (mIsX [("FormulaError", false)] (mSlot 0)) (mCons (mIsX [("FormulaError", false)] (mSlot 0)) mNil))))))
    (sSeq (sSet 1 (m2 (dAdd false) (mSlot 1) (mLst false (mCons (mIsX [("FormulaError", false)] (mSlot 0)) (mCons (mIsX [("FormulaError", false)] (mSlot 0)) (mCons (mIsX [("FormulaError", false)] (mSlot 0)) mNil))))))
    (sSeq (sSet 1 (m2 (dAdd false) (mSlot 1) (mLst false (mCons (mIsX [("FormulaError", false)] (mSlot 0)) (mCons (mIsX [("FormulaError", false)] (mSlot 0)) mNil)))))
    (sRet (mAndV (mIsX [("FormulaError", true)] (mSlot 0)) (mAndV (mIsX [("FormulaError", true)] (mSlot 0)) (m2 dEq (mMe "list" gCount (mSlot 1) (mCons (mC (.bl true)) mNil)) (mC (.int 1))))))))))))
noncomputable def L__law_end_of_1 : MS := (sIf (mB (m2 (dIn true) (m2 dIx (mSlot 0) (mSlot 3)) (mSlot 2))) (sRet (mSlot 3)) sNil)
noncomputable def m__law_end_of : MF := mDef 4 (
    (sSeq (sFor (iF rng2 (mCons (mSlot 1) (mCons (mF gLen (mCons (mSlot 0) mNil)) mNil))) (gNm 3) L__law_end_of_1)
    (sRet (mF gLen (mCons (mSlot 0) mNil)))))
noncomputable def L__law_number_token_1 : MS := (sSet 5 (m2 dMul (mSlot 5) (mC (.int 10))))
noncomputable def m__law_number_token : MF := mDef 8 (
    (sSeq (sSet 2 (mC (.str "0123456789")))
    (sSeq (sSet 3 (mCall 3 m__law_end_of (mCons (mSlot 0) (mCons (mSlot 1) (mCons (mSlot 2) mNil)))))
    (sSeq (sSet 4 (mSl false (mSlot 0) (moSome (mSlot 1)) (moSome (mSlot 3))))
    (sSeq (sSet 5 (mC (.int 1)))
    (sSeq (sIf (mAnd (mB (m2 dEq (mSl false (mSlot 0) (moSome (mSlot 3)) (moSome (m2 (dAdd false) (mSlot 3) (mC (.int 1))))) (mC (.str ".")))) (mAnd (mB (m2 (dCmp fun i j => decide (i < j)) (m2 (dAdd false) (mSlot 3) (mC (.int 1))) (mF gLen (mCons (mSlot 0) mNil)))) (mB (m2 (dIn false) (m2 dIx (mSlot 0) (m2 (dAdd false) (mSlot 3) (mC (.int 1)))) (mSlot 2))))) (sSeq (sSet 6 (mSlot 3))
    (sSeq (sSet 3 (mCall 3 m__law_end_of (mCons (mSlot 0) (mCons (m2 (dAdd false) (mSlot 6) (mC (.int 1))) (mCons (mSlot 2) mNil)))))
    (sSeq (sSet 4 (m2 (dAdd false) (mSlot 4) (mSl false (mSlot 0) (moSome (m2 (dAdd false) (mSlot 6) (mC (.int 1)))) (moSome (mSlot 3)))))
    (sFor (iF rng1 (mCons (mF gMin2 (mCons (m2 dSub (m2 dSub (mSlot 3) (mSlot 6)) (mC (.int 1))) (mCons (mC (.int 9)) mNil))) mNil)) (gNm 7) L__law_number_token_1)))) sNil)
    (sSeq (sIf (mB (m2 (dCmp fun i j => decide (j < i)) (mF gLen (mCons (mSlot 4) mNil)) (mC (.int 9)))) (sRet (mC (.str "digits"))) sNil)
    (sRet (mTup (mCons (mSlot 3) (mCons (mC (.str "number")) (mCons (mCall 2 m__law_fraction (mCons (mF gInt (mCons (mSlot 4) mNil)) (mCons (mSlot 5) mNil))) mNil))))))))))))
noncomputable def m__law_token : MF := mDef 6 (
    (sSeq (sSet 2 (mC (.str "abcdefghijklmnopqrstuvwxyzABCDEFGHIJKLMNOPQRSTUVWXYZ")))
    (sSeq (sSet 3 (m2 dIx (mSlot 0) (mSlot 1)))
    (sSeq (sIf (mB (m2 (dIn false) (mSlot 3) (mC (.str "0123456789")))) (sRet (mCall 2 m__law_number_token (mCons (mSlot 0) (mCons (mSlot 1) mNil)))) sNil)
    (sSeq (sIf (mB (m2 (dIn false) (mSlot 3) (mSlot 2))) (sSeq (sSet 4 (mCall 3 m__law_end_of (mCons (mSlot 0) (mCons (mSlot 1) (mCons (m2 (dAdd false) (mSlot 2) (mC (.str "0123456789"))) mNil)))))
    (sSeq (sSet 5 (mSl false (mSlot 0) (moSome (mSlot 1)) (moSome (mSlot 4))))
    (sSeq (sIf (mB (m2 (dCmp fun i j => decide (j < i)) (mF gLen (mCons (mSlot 5) mNil)) (mC (.int 20)))) (sRet (mC (.str "name"))) sNil)
    (sRet (mTup (mCons (mSlot 4) (mCons (m2 dIx (mLst false (mCons (mC (.str "name")) (mCons (mC (.str "word")) mNil))) (mF gInt (mCons (m2 (dIn false) (mSlot 5) (mLst false (mCons (mC (.str "if")) (mCons (mC (.str "and")) (mCons (mC (.str "or")) (mCons (mC (.str "not")) (mCons (mC (.str "sum")) (mCons (mC (.str "last")) (mCons (mC (.str "floor")) mNil))))))))) mNil))) (mCons (mSlot 5) mNil)))))))) sNil)
    (sSeq (sIf (mB (m2 dEq (mSlot 3) (mC (.str "\"")))) (sSeq (sSet 4 (mMe "str" gFindS (mSlot 0) (mCons (mC (.str "\"")) (mCons (m2 (dAdd false) (mSlot 1) (mC (.int 1))) mNil))))
    (sSeq (sIf (mOr (mB (m2 (dCmp fun i j => decide (i < j)) (mSlot 4) (m2 (dAdd false) (mSlot 1) (mC (.int 2))))) (mB (m2 (dCmp fun i j => decide (j < i)) (mSlot 4) (m2 (dAdd false) (mSlot 1) (mC (.int 21)))))) (sRet (mC (.str "choice"))) sNil)
    (sRet (mTup (mCons (m2 (dAdd false) (mSlot 4) (mC (.int 1))) (mCons (mC (.str "choice")) (mCons (mSl false (mSlot 0) (moSome (m2 (dAdd false) (mSlot 1) (mC (.int 1)))) (moSome (mSlot 4))) mNil))))))) sNil)
    (sSeq (sIf (mB (m2 dEq (mSlot 3) (mC (.str "[")))) (sSeq (sIf (mB (m2 dEq (mSl false (mSlot 0) (moSome (mSlot 1)) (moSome (m2 (dAdd false) (mSlot 1) (mC (.int 4))))) (mC (.str "[-1]")))) (sRet (mTup (mCons (m2 (dAdd false) (mSlot 1) (mC (.int 4))) (mCons (mC (.str "above")) (mCons (mC (.str "[-1]")) mNil))))) sNil)
    (sRet (mC (.str "above")))) sNil)
    (sSeq (sIf (mB (m2 (dIn false) (mSl false (mSlot 0) (moSome (mSlot 1)) (moSome (m2 (dAdd false) (mSlot 1) (mC (.int 2))))) (mLst false (mCons (mC (.str "<=")) (mCons (mC (.str "<>")) (mCons (mC (.str ">=")) mNil)))))) (sRet (mTup (mCons (m2 (dAdd false) (mSlot 1) (mC (.int 2))) (mCons (mC (.str "symbol")) (mCons (mSl false (mSlot 0) (moSome (mSlot 1)) (moSome (m2 (dAdd false) (mSlot 1) (mC (.int 2))))) mNil))))) sNil)
    (sSeq (sIf (mB (m2 (dIn false) (mSlot 3) (mC (.str "(),+-*/<=>")))) (sRet (mTup (mCons (m2 (dAdd false) (mSlot 1) (mC (.int 1))) (mCons (mC (.str "symbol")) (mCons (mSlot 3) mNil))))) sNil)
    (sRet (mC (.str "character"))))))))))))
noncomputable def L__law_split_1 : MS := (sIf (mAnd (mB (m2 (dCmp fun i j => decide (i < j)) (mSlot 2) (mF gLen (mCons (mSlot 0) mNil)))) (mB (m2 dEq (m2 dIx (mSlot 0) (mSlot 2)) (mC (.str " "))))) (sSet 2 (m2 (dAdd false) (mSlot 2) (mC (.int 1)))) (sIf (mB (m2 (dCmp fun i j => decide (i < j)) (mSlot 2) (mF gLen (mCons (mSlot 0) mNil)))) (sSeq (sSet 4 (mCall 2 m__law_token (mCons (mSlot 0) (mCons (mSlot 2) mNil))))
    (sSeq (sIf (mT (mIsi "str" (mSlot 4))) (sRet (mLst false (mCons (mSlot 1) (mCons (mTup (mCons (mSlot 2) (mCons (mSlot 4) mNil))) mNil)))) sNil)
    (sSeq (sExp (mMe "list" gAppend (mSlot 1) (mCons (mTup (mCons (mSlot 2) (mCons (m2 dIx (mSlot 4) (mC (.int 1))) (mCons (m2 dIx (mSlot 4) (mC (.int 2))) mNil)))) mNil)))
    (sSet 2 (m2 dIx (mSlot 4) (mC (.int 0))))))) sNil))
noncomputable def m__law_split : MF := mDef 5 (
    (sSeq (sSet 1 (mLst true mNil))
    (sSeq (sSet 2 (mC (.int 0)))
    (sSeq (sFor (iF rng1 (mCons (mF gLen (mCons (mSlot 0) mNil)) mNil)) (gNm 3) L__law_split_1)
    (sRet (mLst false (mCons (mSlot 1) (mCons (mC .non) mNil))))))))
noncomputable def m__law_piece : MF := mDef 3 (
    (sSeq (sSet 1 (mC (.str "abcdefghijklmnopqrstuvwxyz")))
    (sSeq (sSet 2 (mCall 2 m__law_draw (mCons (mSlot 0) (mCons (mC (.int 12)) mNil))))
    (sSeq (sIf (mB (m2 (dCmp fun i j => decide (i < j)) (mSlot 2) (mC (.int 3)))) (sRet (mCall 2 m__law_pick (mCons (mSlot 0) (mCons (mLst false (mCons (mC (.str "if")) (mCons (mC (.str "and")) (mCons (mC (.str "or")) (mCons (mC (.str "not")) (mCons (mC (.str "sum")) (mCons (mC (.str "last")) (mCons (mC (.str "floor")) (mCons (mC (.str "iff")) (mCons (mC (.str "Sum")) (mCons (mC (.str "a")) (mCons (mC (.str "x1")) (mCons (mC (.str "Qz9")) mNil))))))))))))) mNil)))) sNil)
    (sSeq (sIf (mB (m2 (dCmp fun i j => decide (i < j)) (mSlot 2) (mC (.int 5)))) (sRet (mCall 2 m__law_pick (mCons (mSlot 0) (mCons (mLst false (mCons (mC (.str "0")) (mCons (mC (.str "12")) (mCons (mC (.str "007.50")) (mCons (mC (.str "0.25")) (mCons (mC (.str "2.0")) (mCons (mC (.str "123456789")) (mCons (mC (.str "12345678.9")) (mCons (mC (.str "0.00000001")) (mCons (mC (.str "5.")) mNil)))))))))) mNil)))) sNil)
    (sSeq (sIf (mB (m2 (dCmp fun i j => decide (i < j)) (mSlot 2) (mC (.int 9)))) (sRet (mCall 2 m__law_pick (mCons (mSlot 0) (mCons (mLst false (mCons (mC (.str "(")) (mCons (mC (.str ")")) (mCons (mC (.str ",")) (mCons (mC (.str "+")) (mCons (mC (.str "-")) (mCons (mC (.str "*")) (mCons (mC (.str "/")) (mCons (mC (.str "<")) (mCons (mC (.str "<=")) (mCons (mC (.str "=")) (mCons (mC (.str "<>")) (mCons (mC (.str ">=")) (mCons (mC (.str ">")) (mCons (mC (.str "==")) (mCons (mC (.str "[-1]")) mNil)))))))))))))))) mNil)))) sNil)
    (sSeq (sIf (mB (m2 dEq (mSlot 2) (mC (.int 9)))) (sRet (m2 (dAdd false) (m2 (dAdd false) (mC (.str "\"")) (mCall 2 m__law_pick (mCons (mSlot 0) (mCons (mLst false (mCons (mC (.str "in")) (mCons (mC (.str "x y")) (mCons (mC (.str "<")) (mCons (mC (.str "[-1] + if(a = 1, 2")) (mCons (mC (.str " ")) mNil)))))) mNil)))) (mC (.str "\"")))) sNil)
    (sSeq (sIf (mB (m2 dEq (mSlot 2) (mC (.int 10)))) (sRet (m2 (dAdd false) (mCall 2 m__law_pick (mCons (mSlot 0) (mCons (mSlot 1) mNil))) (mC (.str "bcdefghijklmnopqrst")))) sNil)
    (sRet (mCall 2 m__law_pick (mCons (mSlot 0) (mCons (mLst false (mCons (mC (.str " ")) (mCons (mC (.str " ")) (mCons (mC (.str "   ")) mNil)))) mNil))))))))))))
noncomputable def m__law_flaw : MF := mDef 4 (
    (sSeq (sSet 1 (mLst false (mCons (mC (.str "1234567890")) (mCons (mC (.str "123456789.0")) (mCons (mC (.str "0.000000001")) (mCons (mC (.str "abcdefghijklmnopqrstu")) (mCons (mC (.str "\"\"")) (mCons (mC (.str "\"")) (mCons (mC (.str "[")) (mCons (mC (.str "[-1")) (mCons (mC (.str "[-1 ]")) mNil)))))))))))
    (sSeq (sSet 2 (mLc false [3] (iE srcS (mC (.str ".!_#&':;?@]^{}~`|$\\"))) (gNm 3) mYes (mSlot 3)))
    (sSeq (sSet 1 (m2 (dAdd false) (mSlot 1) (mLst false (mCons (mC (.str "abcdefghijklmnopqrstu")) (mCons (mC (.str "\"abcdefghijklmnopqrstu\"")) (mCons (mC (.str "\"abcdefghijklmnopqrstu\"")) mNil))))))
    (sRet (mCall 2 m__law_pick (mCons (mSlot 0) (mCons (m2 (dAdd false) (mSlot 1) (m2 dMulS (mLst false (mCons (mCall 2 m__law_pick (mCons (mSlot 0) (mCons (mSlot 2) mNil))) mNil)) (mC (.int 4)))) mNil))))))))
noncomputable def m__law_split_alike : MF := mDef 5 (
    (sSeq (sSet 1 (mCall 1 m__law_split (mCons (mSlot 0) mNil)))
    (sSeq (sTry 2 ["FormulaError"] (sSet 3 (mCall 1 m_split_text (mCons (mSlot 0) mNil)))
    (sSeq (sSet 4 (mAndV (mIsX [("FormulaError", true)] (mSlot 2)) (mCall 1 m__law_single (mCons (mSlot 2) mNil))))
    (sRet (mAndV (mSlot 4) (mAndV (m2 dIsNot (m2 dIx (mSlot 1) (mC (.int 1))) (mC .non)) (mCall 2 (m__law_same 12) (mCons (mTup (mCons (mFld "FormulaError" "place" (mSlot 2)) (mCons (mFld "FormulaError" "reason" (mSlot 2)) mNil))) (mCons (m2 dIx (mSlot 1) (mC (.int 1))) mNil))))))))
    (sRet (mAndV (m2 dIs (m2 dIx (mSlot 1) (mC (.int 1))) (mC .non)) (mCall 2 (m__law_same 12) (mCons (mSlot 3) (mCons (mF gTuple (mCons (m2 dIx (mSlot 1) (mC (.int 0))) mNil)) mNil))))))))
noncomputable def L_law_1 : MS := (sSet 6 (m2 (dAdd false) (m2 (dAdd false) (mSlot 6) (mCall 1 m__law_piece (mCons (mSlot 1) mNil))) (mCall 2 m__law_pick (mCons (mSlot 1) (mCons (mLst false (mCons (mC (.str "")) (mCons (mC (.str "")) (mCons (mC (.str " ")) mNil)))) mNil)))))
noncomputable def L_law_2 : MS := (sSeq (sSet 6 (mC (.str "")))
    (sSeq (sFor (iF rng1 (mCons (mCall 2 m__law_draw (mCons (mSlot 1) (mCons (mC (.int 31)) mNil))) mNil)) (gNm 7) L_law_1)
    (sSeq (sSet 5 (mCall 2 m__law_draw (mCons (mSlot 1) (mCons (m2 (dAdd false) (mF gLen (mCons (mSlot 6) mNil)) (mC (.int 1))) mNil))))
    (sSeq (sSet 6 (m2 (dAdd false) (m2 (dAdd false) (mSl false (mSlot 6) moNone (moSome (mSlot 5))) (m2 dIx (mLst false (mCons (mCall 1 m__law_flaw (mCons (mSlot 1) mNil)) (mCons (mC (.str "")) (mCons (mC (.str "")) mNil)))) (mCall 2 m__law_draw (mCons (mSlot 1) (mCons (mC (.int 3)) mNil))))) (mSl false (mSlot 6) (moSome (mSlot 5)) moNone)))
    (sSeq (sIf (mNot (mT (mCall 1 m__law_split_alike (mCons (mSlot 6) mNil)))) (sRet (mC (.bl false))) sNil)
    (sExp (mMe "list" gAppend (mSlot 2) (mCons (mSlot 6) mNil))))))))
noncomputable def L_law_3 : MS := (sIf (mNot (mT (mCall 1 m__law_split_alike (mCons (mSl false (m2 dIx (mSlot 2) (mC (.int 0))) (moSome (mSlot 5)) (moSome (m2 (dAdd false) (mSlot 5) (mC (.int 6))))) mNil)))) (sRet (mC (.bl false))) sNil)
noncomputable def m_law : MF := mDef 8 (
    (sSeq (sSet 1 (mCall 1 m__law_tape (mCons (mSlot 0) mNil)))
    (sSeq (sSet 2 (mLst true mNil))
    (sSeq (sFor (iF rng1 (mCons (mC (.int 2)) mNil)) (gNm 3) L_law_2)
    (sSeq (sIf (mB (m2 dEq (mCall 2 m__law_draw (mCons (mSlot 1) (mCons (mC (.int 8)) mNil))) (mC (.int 0)))) (sSeq (sSet 6 (m2 dMulS (m2 (dAdd false) (mSl false (m2 dIx (mSlot 2) (mC (.int 0))) moNone (moSome (mC (.int 9)))) (mC (.str " "))) (mC (.int 190))))
    (sRet (mAndV (mCall 1 m__law_split_alike (mCons (mSl false (mSlot 6) moNone (moSome (mC (.int 2000)))) mNil)) (mCall 1 m__law_split_alike (mCons (m2 (dAdd false) (m2 dMulS (m2 (dAdd false) (mSl false (m2 dIx (mSlot 2) (mC (.int 1))) moNone (moSome (mC (.int 3)))) (mC (.str "+"))) (mC (.int 400))) (mC (.str "a"))) mNil))))) sNil)
    (sSeq (sIf (mNot (mT (mCall 1 m__law_split_alike (mCons (m2 (dAdd false) (m2 (dAdd false) (m2 dIx (mSlot 2) (mC (.int 0))) (mC (.str " "))) (m2 dIx (mSlot 2) (mC (.int 1)))) mNil)))) (sRet (mC (.bl false))) sNil)
    (sSeq (sSet 4 (mCall 2 m__law_draw (mCons (mSlot 1) (mCons (m2 (dAdd false) (mF gLen (mCons (m2 dIx (mSlot 2) (mC (.int 0))) mNil)) (mC (.int 1))) mNil))))
    (sSeq (sFor (iF rng2 (mCons (mSlot 4) (mCons (mF gMin2 (mCons (m2 (dAdd false) (mSlot 4) (mC (.int 8))) (mCons (mF gLen (mCons (m2 dIx (mSlot 2) (mC (.int 0))) mNil)) mNil))) mNil))) (gNm 5) L_law_3)
    (sRet (mCall 1 m__law_split_alike (mCons (mC (.str "")) mNil)))))))))))
section
variable {P : Program} {w : World} {K : PySem.W.Frag} {mg : Str → Option Value} {base : Heap}
theorem okI_FormulaError (T : Txt K mg) : FnOk P w K mg base (L2N.CX P w) 1 T.i_FormulaError.f T.i_FormulaError.fd ["self", "place", "reason"] (spI2 K T.i_FormulaError.C "place" "reason") :=
  okN (k := 0) T.F_FormulaError sc_FormulaError (fun vs H Q E ⟨_, _, _, e, _⟩ => by rw [e]; rfl) fun cdv A outer s H vs Q E hr ⟨a, v1, v2, e, o, n1, n2, ha, q⟩ => ⟨_, pss_cons (ps_ost (pv 0) (pv 1)) (pss_one (ps_ost (pv 0) (pv 2))), by
    subst e
    exact ⟨v1, rfl, .ref a, rfl, a, _, rfl, o, n1, .inl ⟨ha, fun dx hdx nb => ⟨v2, rfl, .ref a, rfl, a, _, rfl, o, n2, .inr ⟨dx, _, upd_same, (upd_ne nb).trans upd_same, by show 1 ≤ 900; decide, q dx hdx nb⟩⟩⟩⟩⟩
theorem ok_fraction (T : Txt K mg) : FnOk P w K mg base (L2N.CX P w) 1 T.a_fraction T.d_fraction ["n", "d"] (spF K mg 2 m_fraction) :=
  fn_ok (k := 0) T.F_fraction sc_fraction fun cdv A outer s H E hr tk hp =>
    (sss_cons (ss_set 2 sc_fraction.nd rfl (by first | exact .inl rfl | exact .inr rfl) (se_gcd (hm := T.q_gcd) (ha := (sa_cons (se_slot 0) (sa_cons (se_slot 1) sa_nil)))))
    (sss_cons (ss_if (st_lt (se_slot 1) se_int) (sss_one (ss_set 2 sc_fraction.nd rfl (by first | exact .inl rfl | exact .inr rfl) (se_neg (se_slot 2)))) sss_nil)
    (sss_one (ss_ret (se_tup (sa_cons (se_div (se_slot 0) (se_slot 2)) (sa_cons (se_div (se_slot 1) (se_slot 2)) sa_nil)))))))
theorem ok__symbol_at (T : Txt K mg) : FnOk P w K mg base (L2N.CX P w) 3 T.a__symbol_at T.d__symbol_at ["text", "place"] (spF K mg 2 m__symbol_at) :=
  fn_ok (k := 2) T.F__symbol_at sc__symbol_at fun cdv A outer s H E hr tk hp =>
    (sss_cons (ss_for hp rfl (si_tup (se_add false (se_glob T.c_LONG_SYMBOLS (by rfl)) (se_glob T.c_SHORT_SYMBOLS (by rfl)))) (sg_name 2 sc__symbol_at.nd rfl (by first | exact .inl rfl | exact .inr rfl)) (sss_one (ss_if (st_truth (se_startswith2 (ho := (se_slot 0)) (ha := (sa_cons (se_slot 2) (sa_cons (se_slot 1) sa_nil))))) (sss_one (ss_ret (se_tup (sa_cons se_str (sa_cons (se_slot 2) (sa_cons (se_add false (se_slot 1) (se_len (hm := T.z_len) (ha := (sa_cons (se_slot 2) sa_nil)))) sa_nil)))))) sss_nil)))
    (sss_one (ss_raiseI2 (k := 1) rfl (hr.mono (by omega)) tk T.i_FormulaError (okI_FormulaError T) T.b_FormulaError (sa_cons (se_slot 1) (sa_cons se_str sa_nil)))))
theorem ok__end_of_run (T : Txt K mg) : FnOk P w K mg base (L2N.CX P w) 1 T.a__end_of_run T.d__end_of_run ["text", "place", "allowed"] (spF K mg 3 m__end_of_run) :=
  fn_ok (k := 0) T.F__end_of_run sc__end_of_run fun cdv A outer s H E hr tk hp =>
    (sss_cons (ss_while hp (st_w (sw_and (st_lt (se_slot 1) (se_len (hm := T.z_len) (ha := (sa_cons (se_slot 0) sa_nil)))) (sw_and1 (st_in (se_ix (se_slot 0) (se_slot 1)) (se_slot 2))))) (sss_one (ss_inc 1 sc__end_of_run.nd rfl (by first | exact .inl rfl | exact .inr rfl) se_int)))
    (sss_one (ss_ret (se_slot 1))))
theorem ok__number_at (T : Txt K mg) : FnOk P w K mg base (L2N.CX P w) 3 T.a__number_at T.d__number_at ["text", "place"] (spF K mg 2 m__number_at) :=
  fn_ok (k := 2) T.F__number_at sc__number_at fun cdv A outer s H E hr tk hp =>
    (sss_cons (ss_set 2 sc__number_at.nd rfl (by first | exact .inl rfl | exact .inr rfl) (se_call (ok__end_of_run T) (hr.mono (by omega)) tk (by rfl) T.g__end_of_run T.F__end_of_run.kp T.b__end_of_run (sa_cons (se_slot 0) (sa_cons (se_slot 1) (sa_cons (se_glob T.c_DIGITS (by rfl)) sa_nil)))))
    (sss_cons (ss_set 3 sc__number_at.nd rfl (by first | exact .inl rfl | exact .inr rfl) (se_sl false (se_slot 0) (so_some (se_slot 1)) (so_some (se_slot 2))))
    (sss_cons (ss_set 4 sc__number_at.nd rfl (by first | exact .inl rfl | exact .inr rfl) se_str)
    (sss_cons (ss_if (st_truth (se_startswith2 (ho := (se_slot 0)) (ha := (sa_cons se_str (sa_cons (se_slot 2) sa_nil))))) (sss_one (ss_set 4 sc__number_at.nd rfl (by first | exact .inl rfl | exact .inr rfl) (se_sl false (se_slot 0) (so_some (se_add false (se_slot 2) se_int)) (so_some (se_call (ok__end_of_run T) (hr.mono (by omega)) tk (by rfl) T.g__end_of_run T.F__end_of_run.kp T.b__end_of_run (sa_cons (se_slot 0) (sa_cons (se_add false (se_slot 2) se_int) (sa_cons (se_glob T.c_DIGITS (by rfl)) sa_nil)))))))) sss_nil)
    (sss_cons (ss_if (st_truth (se_slot 4)) (sss_one (ss_inc 2 sc__number_at.nd rfl (by first | exact .inl rfl | exact .inr rfl) (se_add false se_int (se_len (hm := T.z_len) (ha := (sa_cons (se_slot 4) sa_nil)))))) sss_nil)
    (sss_cons (ss_if (st_gt (se_len (hm := T.z_len) (ha := (sa_cons (se_add false (se_slot 3) (se_slot 4)) sa_nil))) (se_glob T.c_MOST_DIGITS (by rfl))) (sss_one (ss_raiseI2 (k := 1) rfl (hr.mono (by omega)) tk T.i_FormulaError (okI_FormulaError T) T.b_FormulaError (sa_cons (se_slot 1) (sa_cons se_str sa_nil)))) sss_nil)
    (sss_cons (ss_set 5 sc__number_at.nd rfl (by first | exact .inl rfl | exact .inr rfl) (se_call (ok_fraction T) (hr.mono (by omega)) tk (by rfl) T.g_fraction T.F_fraction.kp T.b_fraction (sa_cons (se_int_of (hm := T.z_int) (ha := (sa_cons (se_add false (se_slot 3) (se_slot 4)) sa_nil))) (sa_cons (se_int_of (hm := T.z_int) (ha := (sa_cons (se_add false se_str (se_mulS se_str (se_len (hm := T.z_len) (ha := (sa_cons (se_slot 4) sa_nil))))) sa_nil))) sa_nil))))
    (sss_one (ss_ret (se_tup (sa_cons se_str (sa_cons (se_slot 5) (sa_cons (se_slot 2) sa_nil)))))))))))))
theorem ok__name_at (T : Txt K mg) : FnOk P w K mg base (L2N.CX P w) 3 T.a__name_at T.d__name_at ["text", "place"] (spF K mg 2 m__name_at) :=
  fn_ok (k := 2) T.F__name_at sc__name_at fun cdv A outer s H E hr tk hp =>
    (sss_cons (ss_set 2 sc__name_at.nd rfl (by first | exact .inl rfl | exact .inr rfl) (se_call (ok__end_of_run T) (hr.mono (by omega)) tk (by rfl) T.g__end_of_run T.F__end_of_run.kp T.b__end_of_run (sa_cons (se_slot 0) (sa_cons (se_slot 1) (sa_cons (se_add false (se_glob T.c_LETTERS (by rfl)) (se_glob T.c_DIGITS (by rfl))) sa_nil)))))
    (sss_cons (ss_set 3 sc__name_at.nd rfl (by first | exact .inl rfl | exact .inr rfl) (se_sl false (se_slot 0) (so_some (se_slot 1)) (so_some (se_slot 2))))
    (sss_cons (ss_if (st_gt (se_len (hm := T.z_len) (ha := (sa_cons (se_slot 3) sa_nil))) (se_glob T.c_MOST_CHARACTERS (by rfl))) (sss_one (ss_raiseI2 (k := 1) rfl (hr.mono (by omega)) tk T.i_FormulaError (okI_FormulaError T) T.b_FormulaError (sa_cons (se_slot 1) (sa_cons se_str sa_nil)))) sss_nil)
    (sss_cons (ss_if (st_in (se_slot 3) (se_glob T.c_RESERVED_WORDS (by rfl))) (sss_one (ss_ret (se_tup (sa_cons se_str (sa_cons (se_slot 3) (sa_cons (se_slot 2) sa_nil)))))) sss_nil)
    (sss_one (ss_ret (se_tup (sa_cons se_str (sa_cons (se_slot 3) (sa_cons (se_slot 2) sa_nil))))))))))
theorem ok__choice_at (T : Txt K mg) : FnOk P w K mg base (L2N.CX P w) 3 T.a__choice_at T.d__choice_at ["text", "place"] (spF K mg 2 m__choice_at) :=
  fn_ok (k := 2) T.F__choice_at sc__choice_at fun cdv A outer s H E hr tk hp =>
    (sss_cons (ss_set 2 sc__choice_at.nd rfl (by first | exact .inl rfl | exact .inr rfl) (se_find2 (ho := (se_slot 0)) (ha := (sa_cons se_str (sa_cons (se_add false (se_slot 1) se_int) sa_nil)))))
    (sss_cons (ss_set 3 sc__choice_at.nd rfl (by first | exact .inl rfl | exact .inr rfl) (se_sl false (se_slot 0) (so_some (se_add false (se_slot 1) se_int)) (so_some (se_slot 2))))
    (sss_cons (ss_if (st_w (sw_or (st_lt (se_slot 2) se_int) (sw_or1 (st_not (st_chain op_le o2_cmp op_le o2_cmp se_int (se_len (hm := T.z_len) (ha := (sa_cons (se_slot 3) sa_nil))) (se_glob T.c_MOST_CHARACTERS (by rfl))))))) (sss_one (ss_raiseI2 (k := 1) rfl (hr.mono (by omega)) tk T.i_FormulaError (okI_FormulaError T) T.b_FormulaError (sa_cons (se_slot 1) (sa_cons se_str sa_nil)))) sss_nil)
    (sss_one (ss_ret (se_tup (sa_cons se_str (sa_cons (se_slot 3) (sa_cons (se_add false (se_slot 2) se_int) sa_nil)))))))))
theorem ok__above_at (T : Txt K mg) : FnOk P w K mg base (L2N.CX P w) 3 T.a__above_at T.d__above_at ["text", "place"] (spF K mg 2 m__above_at) :=
  fn_ok (k := 2) T.F__above_at sc__above_at fun cdv A outer s H E hr tk hp =>
    (sss_cons (ss_if (st_not (st_truth (se_startswith2 (ho := (se_slot 0)) (ha := (sa_cons (se_glob T.c_ABOVE (by rfl)) (sa_cons (se_slot 1) sa_nil)))))) (sss_one (ss_raiseI2 (k := 1) rfl (hr.mono (by omega)) tk T.i_FormulaError (okI_FormulaError T) T.b_FormulaError (sa_cons (se_slot 1) (sa_cons se_str sa_nil)))) sss_nil)
    (sss_one (ss_ret (se_tup (sa_cons se_str (sa_cons (se_glob T.c_ABOVE (by rfl)) (sa_cons (se_add false (se_slot 1) (se_len (hm := T.z_len) (ha := (sa_cons (se_glob T.c_ABOVE (by rfl)) sa_nil)))) sa_nil)))))))
theorem ok__token_at (T : Txt K mg) : FnOk P w K mg base (L2N.CX P w) 4 T.a__token_at T.d__token_at ["text", "place"] (spF K mg 2 m__token_at) :=
  fn_ok (k := 3) T.F__token_at sc__token_at fun cdv A outer s H E hr tk hp =>
    (sss_cons (ss_set 2 sc__token_at.nd rfl (by first | exact .inl rfl | exact .inr rfl) (se_ix (se_slot 0) (se_slot 1)))
    (sss_cons (ss_if (st_in (se_slot 2) (se_glob T.c_DIGITS (by rfl))) (sss_one (ss_ret (se_call (ok__number_at T) (hr.mono (by omega)) tk (by rfl) T.g__number_at T.F__number_at.kp T.b__number_at (sa_cons (se_slot 0) (sa_cons (se_slot 1) sa_nil))))) sss_nil)
    (sss_cons (ss_if (st_in (se_slot 2) (se_glob T.c_LETTERS (by rfl))) (sss_one (ss_ret (se_call (ok__name_at T) (hr.mono (by omega)) tk (by rfl) T.g__name_at T.F__name_at.kp T.b__name_at (sa_cons (se_slot 0) (sa_cons (se_slot 1) sa_nil))))) sss_nil)
    (sss_cons (ss_if (st_eq (se_slot 2) se_str) (sss_one (ss_ret (se_call (ok__choice_at T) (hr.mono (by omega)) tk (by rfl) T.g__choice_at T.F__choice_at.kp T.b__choice_at (sa_cons (se_slot 0) (sa_cons (se_slot 1) sa_nil))))) sss_nil)
    (sss_cons (ss_if (st_eq (se_slot 2) se_str) (sss_one (ss_ret (se_call (ok__above_at T) (hr.mono (by omega)) tk (by rfl) T.g__above_at T.F__above_at.kp T.b__above_at (sa_cons (se_slot 0) (sa_cons (se_slot 1) sa_nil))))) sss_nil)
    (sss_one (ss_ret (se_call (ok__symbol_at T) (hr.mono (by omega)) tk (by rfl) T.g__symbol_at T.F__symbol_at.kp T.b__symbol_at (sa_cons (se_slot 0) (sa_cons (se_slot 1) sa_nil))))))))))
theorem ok_split_text (T : Txt K mg) : FnOk P w K mg base (L2N.CX P w) 5 T.a_split_text T.d_split_text ["text"] (spF K mg 1 m_split_text) :=
  fn_ok (k := 4) T.F_split_text sc_split_text fun cdv A outer s H E hr tk hp =>
    (sss_cons (ss_set 1 sc_split_text.nd rfl (by first | exact .inl rfl | exact .inr rfl) (se_lst true sa_nil))
    (sss_cons (ss_set 2 sc_split_text.nd rfl (by first | exact .inl rfl | exact .inr rfl) se_int)
    (sss_cons (ss_while hp (st_lt (se_slot 2) (se_len (hm := T.z_len) (ha := (sa_cons (se_slot 0) sa_nil)))) (sss_one (ss_if (st_eq (se_ix (se_slot 0) (se_slot 2)) se_str) (sss_one (ss_inc 2 sc_split_text.nd rfl (by first | exact .inl rfl | exact .inr rfl) se_int)) (sss_cons (ss_asg (se_call (ok__token_at T) (hr.mono (by omega)) tk (by rfl) T.g__token_at T.F__token_at.kp T.b__token_at (sa_cons (se_slot 0) (sa_cons (se_slot 2) sa_nil))) (sg_tup rfl (sgs_cons (sg_name 3 sc_split_text.nd rfl (by first | exact .inl rfl | exact .inr rfl)) (sgs_cons (sg_name 4 sc_split_text.nd rfl (by first | exact .inl rfl | exact .inr rfl)) (sgs_cons (sg_name 5 sc_split_text.nd rfl (by first | exact .inl rfl | exact .inr rfl)) sgs_nil)))))
    (sss_cons (ss_exp (se_append (ho := (se_slot 1)) (ha := (sa_cons (se_tup (sa_cons (se_slot 2) (sa_cons (se_slot 3) (sa_cons (se_slot 4) sa_nil)))) sa_nil))))
    (sss_one (ss_set 2 sc_split_text.nd rfl (by first | exact .inl rfl | exact .inr rfl) (se_slot 5))))))))
    (sss_one (ss_ret (se_tuple (hm := T.z_tuple) (ha := (sa_cons (se_slot 1) sa_nil))))))))
theorem ok__law_tape (T : Txt K mg) : FnOk P w K mg base (L2N.CX P w) 1 T.a__law_tape T.d__law_tape ["script"] (spF K mg 1 m__law_tape) :=
  fn_ok (k := 0) T.F__law_tape sc__law_tape fun cdv A outer s H E hr tk hp =>
    (sss_cons (ss_set 1 sc__law_tape.nd rfl (by first | exact .inl rfl | exact .inr rfl) se_int)
    (sss_cons (ss_for hp rfl (si_list (se_slot 0)) (sg_name 2 sc__law_tape.nd rfl (by first | exact .inl rfl | exact .inr rfl)) (sss_one (ss_set 1 sc__law_tape.nd rfl (by first | exact .inl rfl | exact .inr rfl) (se_mod (se_int_of (hm := T.z_int) (ha := (sa_cons (se_add false (se_mul (se_slot 1) se_int) (se_abs (hm := T.z_abs) (ha := (sa_cons (se_int_of (hm := T.z_int) (ha := (sa_cons (se_slot 2) sa_nil))) sa_nil)))) sa_nil))) se_int))))
    (sss_one (ss_ret (se_lst true (sa_cons (se_list false (hm := T.z_list) (ha := (sa_cons (se_slot 0) sa_nil))) (sa_cons se_int (sa_cons se_int (sa_cons (se_slot 1) sa_nil)))))))))
theorem ok__law_draw (T : Txt K mg) : FnOk P w K mg base (L2N.CX P w) 1 T.a__law_draw T.d__law_draw ["tape", "many"] (spF K mg 2 m__law_draw) :=
  fn_ok (k := 0) T.F__law_draw sc__law_draw fun cdv A outer s H E hr tk hp =>
    (sss_cons (ss_if (st_eq (se_ix (se_slot 0) se_int) se_int) (sss_cons (ss_set 3 sc__law_draw.nd rfl (by first | exact .inl rfl | exact .inr rfl) (se_ix (se_slot 0) se_int))
    (sss_cons (ss_set 2 sc__law_draw.nd rfl (by first | exact .inl rfl | exact .inr rfl) se_int)
    (sss_cons (ss_if (st_lt (se_slot 3) (se_len (hm := T.z_len) (ha := (sa_cons (se_ix (se_slot 0) se_int) sa_nil)))) (sss_one (ss_set 2 sc__law_draw.nd rfl (by first | exact .inl rfl | exact .inr rfl) (se_abs (hm := T.z_abs) (ha := (sa_cons (se_int_of (hm := T.z_int) (ha := (sa_cons (se_ix (se_ix (se_slot 0) se_int) (se_slot 3)) sa_nil))) sa_nil))))) (sss_cons (ss_asg (se_mod (se_int_of (hm := T.z_int) (ha := (sa_cons (se_add false (se_add false (se_mul (se_ix (se_slot 0) se_int) se_int) (se_slot 3)) se_int) sa_nil))) se_int) (sg_item (se_slot 0) se_int))
    (sss_one (ss_set 2 sc__law_draw.nd rfl (by first | exact .inl rfl | exact .inr rfl) (se_ix (se_slot 0) se_int)))))
    (sss_cons (ss_asg (se_add false (se_slot 3) se_int) (sg_item (se_slot 0) se_int))
    (sss_cons (ss_if (st_lt (se_slot 2) (se_pow se_int se_int)) (sss_cons (ss_set 2 sc__law_draw.nd rfl (by first | exact .inl rfl | exact .inr rfl) (se_mod (se_int_of (hm := T.z_int) (ha := (sa_cons (se_add false (se_add false (se_mul (se_slot 2) se_int) (se_mul (se_slot 3) se_int)) se_int) sa_nil))) se_int))
    (sss_cons (ss_set 2 sc__law_draw.nd rfl (by first | exact .inl rfl | exact .inr rfl) (se_mod (se_int_of (hm := T.z_int) (ha := (sa_cons (se_mul (se_slot 2) se_int) sa_nil))) se_int))
    (sss_one (ss_ret (se_mod (se_int_of (hm := T.z_int) (ha := (sa_cons (se_slot 2) sa_nil))) (se_max2 (hm := T.z_max) (ha := (sa_cons (se_slot 1) (sa_cons se_int sa_nil))))))))) sss_nil)
    (sss_one (ss_asg (se_slot 2) (sg_item (se_slot 0) se_int)))))))) sss_nil)
    (sss_cons (ss_set 2 sc__law_draw.nd rfl (by first | exact .inl rfl | exact .inr rfl) (se_ix (se_slot 0) se_int))
    (sss_cons (ss_asg (se_div (se_slot 2) (se_max2 (hm := T.z_max) (ha := (sa_cons (se_slot 1) (sa_cons se_int sa_nil))))) (sg_item (se_slot 0) se_int))
    (sss_one (ss_ret (se_mod (se_int_of (hm := T.z_int) (ha := (sa_cons (se_slot 2) sa_nil))) (se_max2 (hm := T.z_max) (ha := (sa_cons (se_slot 1) (sa_cons se_int sa_nil))))))))))
theorem ok__law_pick (T : Txt K mg) : FnOk P w K mg base (L2N.CX P w) 2 T.a__law_pick T.d__law_pick ["tape", "row"] (spF K mg 2 m__law_pick) :=
  fn_ok (k := 1) T.F__law_pick sc__law_pick fun cdv A outer s H E hr tk hp =>
    (sss_one (ss_ret (se_ix (se_slot 1) (se_call (ok__law_draw T) (hr.mono (by omega)) tk (by rfl) T.g__law_draw T.F__law_draw.kp T.b__law_draw (sa_cons (se_slot 0) (sa_cons (se_len (hm := T.z_len) (ha := (sa_cons (se_slot 1) sa_nil))) sa_nil))))))
theorem ok__law_same (T : Txt K mg) : ∀ n : Nat, FnOk P w K mg base (L2N.CX P w) (n + 0) T.a__law_same T.d__law_same ["actual", "expected"] (spF K mg 2 (m__law_same n))
  | 0 => fn_none rfl
  | n + 1 => by
    have I__law_same := ok__law_same T n
    rw [show n + 1 + 0 = n + 0 + 1 by omega]
    exact fn_ok (k := n + 0) T.F__law_same sc__law_same fun cdv A outer s H E hr tk hp =>
      (sss_cons (ss_if (st_is (se_slot 1) se_non) (sss_one (ss_ret (se_is (se_slot 0) se_non))) sss_nil)
    (sss_cons (ss_if (st_truth (se_isi "tuple" (hm := T.z_isinstance) (hgT := by rfl) (hmT := T.z_tuple) (hvT := by decide +kernel) (ha := (se_slot 1)))) (sss_cons (ss_if (st_w (sw_or (st_not (st_truth (se_isi "tuple" (hm := T.z_isinstance) (hgT := by rfl) (hmT := T.z_tuple) (hvT := by decide +kernel) (ha := (se_slot 0))))) (sw_or1 (st_ne (se_len (hm := T.z_len) (ha := (sa_cons (se_slot 0) sa_nil))) (se_len (hm := T.z_len) (ha := (sa_cons (se_slot 1) sa_nil))))))) (sss_one (ss_ret se_bl)) sss_nil)
    (sss_cons (ss_for hp rfl (si_rng1 (hm := T.z_range) (ha := (sa_cons (se_len (hm := T.z_len) (ha := (sa_cons (se_slot 1) sa_nil))) sa_nil))) (sg_name 2 sc__law_same.nd rfl (by first | exact .inl rfl | exact .inr rfl)) (sss_one (ss_if (st_not (st_truth (se_call I__law_same hr tk (by rfl) T.g__law_same T.F__law_same.kp T.b__law_same (sa_cons (se_ix (se_slot 0) (se_slot 2)) (sa_cons (se_ix (se_slot 1) (se_slot 2)) sa_nil))))) (sss_one (ss_ret se_bl)) sss_nil)))
    (sss_one (ss_ret se_bl)))) sss_nil)
    (sss_cons (ss_if (st_truth (se_isi "bool" (hm := T.z_isinstance) (hgT := by rfl) (hmT := T.z_bool) (hvT := by decide +kernel) (ha := (se_slot 1)))) (sss_one (ss_ret (se_and (se_isi "bool" (hm := T.z_isinstance) (hgT := by rfl) (hmT := T.z_bool) (hvT := by decide +kernel) (ha := (se_slot 0))) (se_one (se_eq (se_slot 0) (se_slot 1)))))) sss_nil)
    (sss_cons (ss_if (st_truth (se_isi "str" (hm := T.z_isinstance) (hgT := by rfl) (hmT := T.z_str) (hvT := by decide +kernel) (ha := (se_slot 1)))) (sss_one (ss_ret (se_and (se_isi "str" (hm := T.z_isinstance) (hgT := by rfl) (hmT := T.z_str) (hvT := by decide +kernel) (ha := (se_slot 0))) (se_one (se_eq (se_slot 0) (se_slot 1)))))) sss_nil)
    (sss_one (ss_ret (se_and (se_isi "int" (hm := T.z_isinstance) (hgT := by rfl) (hmT := T.z_int) (hvT := by decide +kernel) (ha := (se_slot 0))) (se_and (se_not (se_isi "bool" (hm := T.z_isinstance) (hgT := by rfl) (hmT := T.z_bool) (hvT := by decide +kernel) (ha := (se_slot 0)))) (se_one (se_eq (se_slot 0) (se_slot 1)))))))))))
theorem okP__law_same (T : Txt K mg) : ∀ n : Nat, FnP P w K mg base (L2N.CX P w) (n + 0) T.a__law_same T.d__law_same ["actual", "expected"] (spP K mg 2 (m__law_same n))
  | 0 => fnP_none rfl
  | n + 1 => by
    have I__law_same := okP__law_same T n
    rw [show n + 1 + 0 = n + 0 + 1 by omega]
    exact fn_okP (k := n + 0) T.F__law_same sc__law_same fun cdv A outer s H E p hr hhot tk hp =>
      (sss_cons (ss_if (st_is (se_slot 1) se_non) (sss_one (ss_ret (se_is (se_slot 0) se_non))) sss_nil)
    (sss_cons (ss_if (st_truth (se_isi "tuple" (hm := T.z_isinstance) (hgT := by rfl) (hmT := T.z_tuple) (hvT := by decide +kernel) (ha := (se_slot 1)))) (sss_cons (ss_if (st_w (sw_or (st_not (st_truth (se_isi "tuple" (hm := T.z_isinstance) (hgT := by rfl) (hmT := T.z_tuple) (hvT := by decide +kernel) (ha := (se_slot 0))))) (sw_or1 (st_ne (se_len (hm := T.z_len) (ha := (sa_cons (se_slot 0) sa_nil))) (se_len (hm := T.z_len) (ha := (sa_cons (se_slot 1) sa_nil))))))) (sss_one (ss_ret se_bl)) sss_nil)
    (sss_cons (ss_forH hp hhot (sih_rng1 (hm := T.z_range) (ha := (sa_cons (se_len (hm := T.z_len) (ha := (sa_cons (se_slot 1) sa_nil))) sa_nil))) (sg_name 2 sc__law_same.nd rfl (by first | exact .inl rfl | exact .inr rfl)) (sss_one (ss_if (st_not (st_truth (se_callP rfl I__law_same hr tk (by rfl) T.g__law_same T.F__law_same.kp T.b__law_same (sa_cons (se_ix (se_slot 0) (se_slot 2)) (sa_cons (se_ix (se_slot 1) (se_slot 2)) sa_nil))))) (sss_one (ss_ret se_bl)) sss_nil)))
    (sss_one (ss_ret se_bl)))) sss_nil)
    (sss_cons (ss_if (st_truth (se_isi "bool" (hm := T.z_isinstance) (hgT := by rfl) (hmT := T.z_bool) (hvT := by decide +kernel) (ha := (se_slot 1)))) (sss_one (ss_ret (se_and (se_isi "bool" (hm := T.z_isinstance) (hgT := by rfl) (hmT := T.z_bool) (hvT := by decide +kernel) (ha := (se_slot 0))) (se_one (se_eq (se_slot 0) (se_slot 1)))))) sss_nil)
    (sss_cons (ss_if (st_truth (se_isi "str" (hm := T.z_isinstance) (hgT := by rfl) (hmT := T.z_str) (hvT := by decide +kernel) (ha := (se_slot 1)))) (sss_one (ss_ret (se_and (se_isi "str" (hm := T.z_isinstance) (hgT := by rfl) (hmT := T.z_str) (hvT := by decide +kernel) (ha := (se_slot 0))) (se_one (se_eq (se_slot 0) (se_slot 1)))))) sss_nil)
    (sss_one (ss_ret (se_and (se_isi "int" (hm := T.z_isinstance) (hgT := by rfl) (hmT := T.z_int) (hvT := by decide +kernel) (ha := (se_slot 0))) (se_and (se_not (se_isi "bool" (hm := T.z_isinstance) (hgT := by rfl) (hmT := T.z_bool) (hvT := by decide +kernel) (ha := (se_slot 0)))) (se_one (se_eq (se_slot 0) (se_slot 1)))))))))))
theorem ok__law_single (T : Txt K mg) : FnOk P w K mg base (L2N.CX P w) 1 T.a__law_single T.d__law_single ["e"] (spF K mg 1 m__law_single) :=
  fn_ok (k := 0) T.F__law_single sc__law_single fun cdv A outer s H E hr tk hp =>
    (sss_cons (ss_set 1 sc__law_single.nd rfl (by first | exact .inl rfl | exact .inr rfl) (se_lst false (sa_cons (se_isx (TabOk.cons T.q_FormulaError T.x_FormulaError_FractionError TabOk.nil) (hm := T.z_isinstance) (hmT := T.gc_FractionError) (ha := (se_slot 0))) (sa_cons (se_isx (TabOk.cons T.q_FormulaError T.x_FormulaError_FormulaError TabOk.nil) (hm := T.z_isinstance) (hmT := T.gc_FormulaError) (ha := (se_slot 0))) (sa_cons (se_isx (TabOk.cons T.q_FormulaError T.x_FormulaError_DefinitionError TabOk.nil) (hm := T.z_isinstance) (hmT := T.gc_DefinitionError) (ha := (se_slot 0))) sa_nil)))))
    (sss_cons (ss_set 1 sc__law_single.nd rfl (by first | exact .inl rfl | exact .inr rfl) (se_add false (se_slot 1) (se_lst false (sa_cons (se_isx (TabOk.cons T.q_FormulaError T.x_FormulaError_TooLarge TabOk.nil) (hm := T.z_isinstance) (hmT := T.gc_TooLarge) (ha := (se_slot 0))) (sa_cons (se_isx (TabOk.cons T.q_FormulaError T.x_FormulaError_InputsDiffer TabOk.nil) (hm := T.z_isinstance) (hmT := T.gc_InputsDiffer) (ha := (se_slot 0))) (sa_cons (se_isx (TabOk.cons T.q_FormulaError T.x_FormulaError_BadPlace TabOk.nil) (hm := T.z_isinstance) (hmT := T.gc_BadPlace) (ha := (se_slot 0))) sa_nil))))))
    (sss_cons (ss_set 1 sc__law_single.nd rfl (by first | exact .inl rfl | exact .inr rfl) (se_add false (se_slot 1) (se_lst false (sa_cons (se_isx (TabOk.cons T.q_FormulaError T.x_FormulaError_IsFold TabOk.nil) (hm := T.z_isinstance) (hmT := T.gc_IsFold) (ha := (se_slot 0))) (sa_cons (se_isx (TabOk.cons T.q_FormulaError T.x_FormulaError_TooMany TabOk.nil) (hm := T.z_isinstance) (hmT := T.gc_TooMany) (ha := (se_slot 0))) (sa_cons (se_isx (TabOk.cons T.q_FormulaError T.x_FormulaError_NothingToFold TabOk.nil) (hm := T.z_isinstance) (hmT := T.gc_NothingToFold) (ha := (se_slot 0))) sa_nil))))))
    (sss_cons (ss_set 1 sc__law_single.nd rfl (by first | exact .inl rfl | exact .inr rfl) (se_add false (se_slot 1) (se_lst false (sa_cons (se_isx (TabOk.cons T.q_FormulaError T.x_FormulaError_NothingToUndo TabOk.nil) (hm := T.z_isinstance) (hmT := T.gc_NothingToUndo) (ha := (se_slot 0))) (sa_cons (se_isx (TabOk.cons T.q_FormulaError T.x_FormulaError_NothingToRedo TabOk.nil) (hm := T.z_isinstance) (hmT := T.gc_NothingToRedo) (ha := (se_slot 0))) (sa_cons (se_isx (TabOk.cons T.q_FormulaError T.x_FormulaError_NotDetermined TabOk.nil) (hm := T.z_isinstance) (hmT := T.gc_NotDetermined) (ha := (se_slot 0))) sa_nil))))))
    (sss_cons (ss_set 1 sc__law_single.nd rfl (by first | exact .inl rfl | exact .inr rfl) (se_add false (se_slot 1) (se_lst false (sa_cons (se_isx (TabOk.cons T.q_FormulaError T.x_FormulaError_NotConverted TabOk.nil) (hm := T.z_isinstance) (hmT := T.gc_NotConverted) (ha := (se_slot 0))) (sa_cons (se_isx (TabOk.cons T.q_FormulaError T.x_FormulaError_BadFile TabOk.nil) (hm := T.z_isinstance) (hmT := T.gc_BadFile) (ha := (se_slot 0))) sa_nil)))))
    (sss_one (ss_ret (se_and (se_isx (TabOk.cons T.q_FormulaError T.x_FormulaError_SheetError TabOk.nil) (hm := T.z_isinstance) (hmT := T.gc_SheetError) (ha := (se_slot 0))) (se_and (se_isxb "ValueError" (TabOk.cons T.q_FormulaError T.x_FormulaError_ValueError TabOk.nil) (hm := T.z_isinstance) (hgT := by rfl) (hmT := T.z_ValueError) (hvT := by decide +kernel) (ha := (se_slot 0))) (se_one (se_eq (se_count (ho := (se_slot 1)) (ha := (sa_cons se_bl sa_nil))) se_int)))))))))))
theorem okP__law_single (T : Txt K mg) : FnP P w K mg base (L2N.CX P w) 1 T.a__law_single T.d__law_single ["e"] (spP K mg 1 m__law_single) :=
  fn_okP (k := 0) T.F__law_single sc__law_single fun cdv A outer s H E p hr hhot tk hp =>
    (sss_cons (ss_set 1 sc__law_single.nd rfl (by first | exact .inl rfl | exact .inr rfl) (se_lst false (sa_cons (se_isx (TabOk.cons T.q_FormulaError T.x_FormulaError_FractionError TabOk.nil) (hm := T.z_isinstance) (hmT := T.gc_FractionError) (ha := (se_slot 0))) (sa_cons (se_isx (TabOk.cons T.q_FormulaError T.x_FormulaError_FormulaError TabOk.nil) (hm := T.z_isinstance) (hmT := T.gc_FormulaError) (ha := (se_slot 0))) (sa_cons (se_isx (TabOk.cons T.q_FormulaError T.x_FormulaError_DefinitionError TabOk.nil) (hm := T.z_isinstance) (hmT := T.gc_DefinitionError) (ha := (se_slot 0))) sa_nil)))))
    (sss_cons (ss_set 1 sc__law_single.nd rfl (by first | exact .inl rfl | exact .inr rfl) (se_add false (se_slot 1) (se_lst false (sa_cons (se_isx (TabOk.cons T.q_FormulaError T.x_FormulaError_TooLarge TabOk.nil) (hm := T.z_isinstance) (hmT := T.gc_TooLarge) (ha := (se_slot 0))) (sa_cons (se_isx (TabOk.cons T.q_FormulaError T.x_FormulaError_InputsDiffer TabOk.nil) (hm := T.z_isinstance) (hmT := T.gc_InputsDiffer) (ha := (se_slot 0))) (sa_cons (se_isx (TabOk.cons T.q_FormulaError T.x_FormulaError_BadPlace TabOk.nil) (hm := T.z_isinstance) (hmT := T.gc_BadPlace) (ha := (se_slot 0))) sa_nil))))))
    (sss_cons (ss_set 1 sc__law_single.nd rfl (by first | exact .inl rfl | exact .inr rfl) (se_add false (se_slot 1) (se_lst false (sa_cons (se_isx (TabOk.cons T.q_FormulaError T.x_FormulaError_IsFold TabOk.nil) (hm := T.z_isinstance) (hmT := T.gc_IsFold) (ha := (se_slot 0))) (sa_cons (se_isx (TabOk.cons T.q_FormulaError T.x_FormulaError_TooMany TabOk.nil) (hm := T.z_isinstance) (hmT := T.gc_TooMany) (ha := (se_slot 0))) (sa_cons (se_isx (TabOk.cons T.q_FormulaError T.x_FormulaError_NothingToFold TabOk.nil) (hm := T.z_isinstance) (hmT := T.gc_NothingToFold) (ha := (se_slot 0))) sa_nil))))))
    (sss_cons (ss_set 1 sc__law_single.nd rfl (by first | exact .inl rfl | exact .inr rfl) (se_add false (se_slot 1) (se_lst false (sa_cons (se_isx (TabOk.cons T.q_FormulaError T.x_FormulaError_NothingToUndo TabOk.nil) (hm := T.z_isinstance) (hmT := T.gc_NothingToUndo) (ha := (se_slot 0))) (sa_cons (se_isx (TabOk.cons T.q_FormulaError T.x_FormulaError_NothingToRedo TabOk.nil) (hm := T.z_isinstance) (hmT := T.gc_NothingToRedo) (ha := (se_slot 0))) (sa_cons (se_isx (TabOk.cons T.q_FormulaError T.x_FormulaError_NotDetermined TabOk.nil) (hm := T.z_isinstance) (hmT := T.gc_NotDetermined) (ha := (se_slot 0))) sa_nil))))))
    (sss_cons (ss_set 1 sc__law_single.nd rfl (by first | exact .inl rfl | exact .inr rfl) (se_add false (se_slot 1) (se_lst false (sa_cons (se_isx (TabOk.cons T.q_FormulaError T.x_FormulaError_NotConverted TabOk.nil) (hm := T.z_isinstance) (hmT := T.gc_NotConverted) (ha := (se_slot 0))) (sa_cons (se_isx (TabOk.cons T.q_FormulaError T.x_FormulaError_BadFile TabOk.nil) (hm := T.z_isinstance) (hmT := T.gc_BadFile) (ha := (se_slot 0))) sa_nil)))))
    (sss_one (ss_ret (se_and (se_isx (TabOk.cons T.q_FormulaError T.x_FormulaError_SheetError TabOk.nil) (hm := T.z_isinstance) (hmT := T.gc_SheetError) (ha := (se_slot 0))) (se_and (se_isxb "ValueError" (TabOk.cons T.q_FormulaError T.x_FormulaError_ValueError TabOk.nil) (hm := T.z_isinstance) (hgT := by rfl) (hmT := T.z_ValueError) (hvT := by decide +kernel) (ha := (se_slot 0))) (se_one (se_eq (se_count (ho := (se_slot 1)) (ha := (sa_cons se_bl sa_nil))) se_int)))))))))))
theorem ok__law_gcd (T : Txt K mg) : FnOk P w K mg base (L2N.CX P w) 1 T.a__law_gcd T.d__law_gcd ["a", "b"] (spF K mg 2 m__law_gcd) :=
  fn_ok (k := 0) T.F__law_gcd sc__law_gcd fun cdv A outer s H E hr tk hp =>
    (sss_cons (ss_set 0 sc__law_gcd.nd rfl (by first | exact .inl rfl | exact .inr rfl) (se_abs (hm := T.z_abs) (ha := (sa_cons (se_slot 0) sa_nil))))
    (sss_cons (ss_set 1 sc__law_gcd.nd rfl (by first | exact .inl rfl | exact .inr rfl) (se_abs (hm := T.z_abs) (ha := (sa_cons (se_slot 1) sa_nil))))
    (sss_cons (ss_while hp (st_gt (se_slot 1) se_int) (sss_cons (ss_set 2 sc__law_gcd.nd rfl (by first | exact .inl rfl | exact .inr rfl) (se_mod (se_int_of (hm := T.z_int) (ha := (sa_cons (se_slot 0) sa_nil))) (se_slot 1)))
    (sss_cons (ss_set 0 sc__law_gcd.nd rfl (by first | exact .inl rfl | exact .inr rfl) (se_slot 1))
    (sss_one (ss_set 1 sc__law_gcd.nd rfl (by first | exact .inl rfl | exact .inr rfl) (se_slot 2))))))
    (sss_one (ss_ret (se_slot 0))))))
theorem ok__law_fraction (T : Txt K mg) : FnOk P w K mg base (L2N.CX P w) 2 T.a__law_fraction T.d__law_fraction ["n", "d"] (spF K mg 2 m__law_fraction) :=
  fn_ok (k := 1) T.F__law_fraction sc__law_fraction fun cdv A outer s H E hr tk hp =>
    (sss_cons (ss_set 2 sc__law_fraction.nd rfl (by first | exact .inl rfl | exact .inr rfl) (se_call (ok__law_gcd T) (hr.mono (by omega)) tk (by rfl) T.g__law_gcd T.F__law_gcd.kp T.b__law_gcd (sa_cons (se_slot 0) (sa_cons (se_slot 1) sa_nil))))
    (sss_cons (ss_if (st_lt (se_slot 1) se_int) (sss_one (ss_set 2 sc__law_fraction.nd rfl (by first | exact .inl rfl | exact .inr rfl) (se_neg (se_slot 2)))) sss_nil)
    (sss_one (ss_ret (se_tup (sa_cons (se_div (se_slot 0) (se_slot 2)) (sa_cons (se_div (se_slot 1) (se_slot 2)) sa_nil)))))))
theorem ok__law_end_of (T : Txt K mg) : FnOk P w K mg base (L2N.CX P w) 1 T.a__law_end_of T.d__law_end_of ["text", "at", "signs"] (spF K mg 3 m__law_end_of) :=
  fn_ok (k := 0) T.F__law_end_of sc__law_end_of fun cdv A outer s H E hr tk hp =>
    (sss_cons (ss_for hp rfl (si_rng2 (hm := T.z_range) (ha := (sa_cons (se_slot 1) (sa_cons (se_len (hm := T.z_len) (ha := (sa_cons (se_slot 0) sa_nil))) sa_nil)))) (sg_name 3 sc__law_end_of.nd rfl (by first | exact .inl rfl | exact .inr rfl)) (sss_one (ss_if (st_notin (se_ix (se_slot 0) (se_slot 3)) (se_slot 2)) (sss_one (ss_ret (se_slot 3))) sss_nil)))
    (sss_one (ss_ret (se_len (hm := T.z_len) (ha := (sa_cons (se_slot 0) sa_nil))))))
theorem ok__law_number_token (T : Txt K mg) : FnOk P w K mg base (L2N.CX P w) 3 T.a__law_number_token T.d__law_number_token ["text", "at"] (spF K mg 2 m__law_number_token) :=
  fn_ok (k := 2) T.F__law_number_token sc__law_number_token fun cdv A outer s H E hr tk hp =>
    (sss_cons (ss_set 2 sc__law_number_token.nd rfl (by first | exact .inl rfl | exact .inr rfl) se_str)
    (sss_cons (ss_set 3 sc__law_number_token.nd rfl (by first | exact .inl rfl | exact .inr rfl) (se_call (ok__law_end_of T) (hr.mono (by omega)) tk (by rfl) T.g__law_end_of T.F__law_end_of.kp T.b__law_end_of (sa_cons (se_slot 0) (sa_cons (se_slot 1) (sa_cons (se_slot 2) sa_nil)))))
    (sss_cons (ss_set 4 sc__law_number_token.nd rfl (by first | exact .inl rfl | exact .inr rfl) (se_sl false (se_slot 0) (so_some (se_slot 1)) (so_some (se_slot 3))))
    (sss_cons (ss_set 5 sc__law_number_token.nd rfl (by first | exact .inl rfl | exact .inr rfl) se_int)
    (sss_cons (ss_if (st_w (sw_and (st_eq (se_sl false (se_slot 0) (so_some (se_slot 3)) (so_some (se_add false (se_slot 3) se_int))) se_str) (sw_and (st_lt (se_add false (se_slot 3) se_int) (se_len (hm := T.z_len) (ha := (sa_cons (se_slot 0) sa_nil)))) (sw_and1 (st_in (se_ix (se_slot 0) (se_add false (se_slot 3) se_int)) (se_slot 2)))))) (sss_cons (ss_set 6 sc__law_number_token.nd rfl (by first | exact .inl rfl | exact .inr rfl) (se_slot 3))
    (sss_cons (ss_set 3 sc__law_number_token.nd rfl (by first | exact .inl rfl | exact .inr rfl) (se_call (ok__law_end_of T) (hr.mono (by omega)) tk (by rfl) T.g__law_end_of T.F__law_end_of.kp T.b__law_end_of (sa_cons (se_slot 0) (sa_cons (se_add false (se_slot 6) se_int) (sa_cons (se_slot 2) sa_nil)))))
    (sss_cons (ss_set 4 sc__law_number_token.nd rfl (by first | exact .inl rfl | exact .inr rfl) (se_add false (se_slot 4) (se_sl false (se_slot 0) (so_some (se_add false (se_slot 6) se_int)) (so_some (se_slot 3)))))
    (sss_one (ss_for hp rfl (si_rng1 (hm := T.z_range) (ha := (sa_cons (se_min2 (hm := T.z_min) (ha := (sa_cons (se_sub (se_sub (se_slot 3) (se_slot 6)) se_int) (sa_cons se_int sa_nil)))) sa_nil))) (sg_name 7 sc__law_number_token.nd rfl (by first | exact .inl rfl | exact .inr rfl)) (sss_one (ss_set 5 sc__law_number_token.nd rfl (by first | exact .inl rfl | exact .inr rfl) (se_mul (se_slot 5) se_int)))))))) sss_nil)
    (sss_cons (ss_if (st_gt (se_len (hm := T.z_len) (ha := (sa_cons (se_slot 4) sa_nil))) se_int) (sss_one (ss_ret se_str)) sss_nil)
    (sss_one (ss_ret (se_tup (sa_cons (se_slot 3) (sa_cons se_str (sa_cons (se_call (ok__law_fraction T) (hr.mono (by omega)) tk (by rfl) T.g__law_fraction T.F__law_fraction.kp T.b__law_fraction (sa_cons (se_int_of (hm := T.z_int) (ha := (sa_cons (se_slot 4) sa_nil))) (sa_cons (se_slot 5) sa_nil))) sa_nil))))))))))))
theorem ok__law_token (T : Txt K mg) : FnOk P w K mg base (L2N.CX P w) 4 T.a__law_token T.d__law_token ["text", "at"] (spF K mg 2 m__law_token) :=
  fn_ok (k := 3) T.F__law_token sc__law_token fun cdv A outer s H E hr tk hp =>
    (sss_cons (ss_set 2 sc__law_token.nd rfl (by first | exact .inl rfl | exact .inr rfl) se_str)
    (sss_cons (ss_set 3 sc__law_token.nd rfl (by first | exact .inl rfl | exact .inr rfl) (se_ix (se_slot 0) (se_slot 1)))
    (sss_cons (ss_if (st_in (se_slot 3) se_str) (sss_one (ss_ret (se_call (ok__law_number_token T) (hr.mono (by omega)) tk (by rfl) T.g__law_number_token T.F__law_number_token.kp T.b__law_number_token (sa_cons (se_slot 0) (sa_cons (se_slot 1) sa_nil))))) sss_nil)
    (sss_cons (ss_if (st_in (se_slot 3) (se_slot 2)) (sss_cons (ss_set 4 sc__law_token.nd rfl (by first | exact .inl rfl | exact .inr rfl) (se_call (ok__law_end_of T) (hr.mono (by omega)) tk (by rfl) T.g__law_end_of T.F__law_end_of.kp T.b__law_end_of (sa_cons (se_slot 0) (sa_cons (se_slot 1) (sa_cons (se_add false (se_slot 2) se_str) sa_nil)))))
    (sss_cons (ss_set 5 sc__law_token.nd rfl (by first | exact .inl rfl | exact .inr rfl) (se_sl false (se_slot 0) (so_some (se_slot 1)) (so_some (se_slot 4))))
    (sss_cons (ss_if (st_gt (se_len (hm := T.z_len) (ha := (sa_cons (se_slot 5) sa_nil))) se_int) (sss_one (ss_ret se_str)) sss_nil)
    (sss_one (ss_ret (se_tup (sa_cons (se_slot 4) (sa_cons (se_ix (se_lst false (sa_cons se_str (sa_cons se_str sa_nil))) (se_int_of (hm := T.z_int) (ha := (sa_cons (se_in (se_slot 5) (se_lst false (sa_cons se_str (sa_cons se_str (sa_cons se_str (sa_cons se_str (sa_cons se_str (sa_cons se_str (sa_cons se_str sa_nil))))))))) sa_nil)))) (sa_cons (se_slot 5) sa_nil))))))))) sss_nil)
    (sss_cons (ss_if (st_eq (se_slot 3) se_str) (sss_cons (ss_set 4 sc__law_token.nd rfl (by first | exact .inl rfl | exact .inr rfl) (se_find2 (ho := (se_slot 0)) (ha := (sa_cons se_str (sa_cons (se_add false (se_slot 1) se_int) sa_nil)))))
    (sss_cons (ss_if (st_w (sw_or (st_lt (se_slot 4) (se_add false (se_slot 1) se_int)) (sw_or1 (st_gt (se_slot 4) (se_add false (se_slot 1) se_int))))) (sss_one (ss_ret se_str)) sss_nil)
    (sss_one (ss_ret (se_tup (sa_cons (se_add false (se_slot 4) se_int) (sa_cons se_str (sa_cons (se_sl false (se_slot 0) (so_some (se_add false (se_slot 1) se_int)) (so_some (se_slot 4))) sa_nil)))))))) sss_nil)
    (sss_cons (ss_if (st_eq (se_slot 3) se_str) (sss_cons (ss_if (st_eq (se_sl false (se_slot 0) (so_some (se_slot 1)) (so_some (se_add false (se_slot 1) se_int))) se_str) (sss_one (ss_ret (se_tup (sa_cons (se_add false (se_slot 1) se_int) (sa_cons se_str (sa_cons se_str sa_nil)))))) sss_nil)
    (sss_one (ss_ret se_str))) sss_nil)
    (sss_cons (ss_if (st_in (se_sl false (se_slot 0) (so_some (se_slot 1)) (so_some (se_add false (se_slot 1) se_int))) (se_lst false (sa_cons se_str (sa_cons se_str (sa_cons se_str sa_nil))))) (sss_one (ss_ret (se_tup (sa_cons (se_add false (se_slot 1) se_int) (sa_cons se_str (sa_cons (se_sl false (se_slot 0) (so_some (se_slot 1)) (so_some (se_add false (se_slot 1) se_int))) sa_nil)))))) sss_nil)
    (sss_cons (ss_if (st_in (se_slot 3) se_str) (sss_one (ss_ret (se_tup (sa_cons (se_add false (se_slot 1) se_int) (sa_cons se_str (sa_cons (se_slot 3) sa_nil)))))) sss_nil)
    (sss_one (ss_ret se_str))))))))))
theorem ok__law_split (T : Txt K mg) : FnOk P w K mg base (L2N.CX P w) 5 T.a__law_split T.d__law_split ["text"] (spF K mg 1 m__law_split) :=
  fn_ok (k := 4) T.F__law_split sc__law_split fun cdv A outer s H E hr tk hp =>
    (sss_cons (ss_set 1 sc__law_split.nd rfl (by first | exact .inl rfl | exact .inr rfl) (se_lst true sa_nil))
    (sss_cons (ss_set 2 sc__law_split.nd rfl (by first | exact .inl rfl | exact .inr rfl) se_int)
    (sss_cons (ss_for hp rfl (si_rng1 (hm := T.z_range) (ha := (sa_cons (se_len (hm := T.z_len) (ha := (sa_cons (se_slot 0) sa_nil))) sa_nil))) (sg_name 3 sc__law_split.nd rfl (by first | exact .inl rfl | exact .inr rfl)) (sss_one (ss_if (st_w (sw_and (st_lt (se_slot 2) (se_len (hm := T.z_len) (ha := (sa_cons (se_slot 0) sa_nil)))) (sw_and1 (st_eq (se_ix (se_slot 0) (se_slot 2)) se_str)))) (sss_one (ss_set 2 sc__law_split.nd rfl (by first | exact .inl rfl | exact .inr rfl) (se_add false (se_slot 2) se_int))) (sss_one (ss_if (st_lt (se_slot 2) (se_len (hm := T.z_len) (ha := (sa_cons (se_slot 0) sa_nil)))) (sss_cons (ss_set 4 sc__law_split.nd rfl (by first | exact .inl rfl | exact .inr rfl) (se_call (ok__law_token T) (hr.mono (by omega)) tk (by rfl) T.g__law_token T.F__law_token.kp T.b__law_token (sa_cons (se_slot 0) (sa_cons (se_slot 2) sa_nil))))
    (sss_cons (ss_if (st_truth (se_isi "str" (hm := T.z_isinstance) (hgT := by rfl) (hmT := T.z_str) (hvT := by decide +kernel) (ha := (se_slot 4)))) (sss_one (ss_ret (se_lst false (sa_cons (se_slot 1) (sa_cons (se_tup (sa_cons (se_slot 2) (sa_cons (se_slot 4) sa_nil))) sa_nil))))) sss_nil)
    (sss_cons (ss_exp (se_append (ho := (se_slot 1)) (ha := (sa_cons (se_tup (sa_cons (se_slot 2) (sa_cons (se_ix (se_slot 4) se_int) (sa_cons (se_ix (se_slot 4) se_int) sa_nil)))) sa_nil))))
    (sss_one (ss_set 2 sc__law_split.nd rfl (by first | exact .inl rfl | exact .inr rfl) (se_ix (se_slot 4) se_int)))))) sss_nil)))))
    (sss_one (ss_ret (se_lst false (sa_cons (se_slot 1) (sa_cons se_non sa_nil))))))))
theorem ok__law_piece (T : Txt K mg) : FnOk P w K mg base (L2N.CX P w) 3 T.a__law_piece T.d__law_piece ["tape"] (spF K mg 1 m__law_piece) :=
  fn_ok (k := 2) T.F__law_piece sc__law_piece fun cdv A outer s H E hr tk hp =>
    (sss_cons (ss_set 1 sc__law_piece.nd rfl (by first | exact .inl rfl | exact .inr rfl) se_str)
    (sss_cons (ss_set 2 sc__law_piece.nd rfl (by first | exact .inl rfl | exact .inr rfl) (se_call (ok__law_draw T) (hr.mono (by omega)) tk (by rfl) T.g__law_draw T.F__law_draw.kp T.b__law_draw (sa_cons (se_slot 0) (sa_cons se_int sa_nil))))
    (sss_cons (ss_if (st_lt (se_slot 2) se_int) (sss_one (ss_ret (se_call (ok__law_pick T) (hr.mono (by omega)) tk (by rfl) T.g__law_pick T.F__law_pick.kp T.b__law_pick (sa_cons (se_slot 0) (sa_cons (se_lst false (sa_cons se_str (sa_cons se_str (sa_cons se_str (sa_cons se_str (sa_cons se_str (sa_cons se_str (sa_cons se_str (sa_cons se_str (sa_cons se_str (sa_cons se_str (sa_cons se_str (sa_cons se_str sa_nil))))))))))))) sa_nil))))) sss_nil)
    (sss_cons (ss_if (st_lt (se_slot 2) se_int) (sss_one (ss_ret (se_call (ok__law_pick T) (hr.mono (by omega)) tk (by rfl) T.g__law_pick T.F__law_pick.kp T.b__law_pick (sa_cons (se_slot 0) (sa_cons (se_lst false (sa_cons se_str (sa_cons se_str (sa_cons se_str (sa_cons se_str (sa_cons se_str (sa_cons se_str (sa_cons se_str (sa_cons se_str (sa_cons se_str sa_nil)))))))))) sa_nil))))) sss_nil)
    (sss_cons (ss_if (st_lt (se_slot 2) se_int) (sss_one (ss_ret (se_call (ok__law_pick T) (hr.mono (by omega)) tk (by rfl) T.g__law_pick T.F__law_pick.kp T.b__law_pick (sa_cons (se_slot 0) (sa_cons (se_lst false (sa_cons se_str (sa_cons se_str (sa_cons se_str (sa_cons se_str (sa_cons se_str (sa_cons se_str (sa_cons se_str (sa_cons se_str (sa_cons se_str (sa_cons se_str (sa_cons se_str (sa_cons se_str (sa_cons se_str (sa_cons se_str (sa_cons se_str sa_nil)))))))))))))))) sa_nil))))) sss_nil)
    (sss_cons (ss_if (st_eq (se_slot 2) se_int) (sss_one (ss_ret (se_add false (se_add false se_str (se_call (ok__law_pick T) (hr.mono (by omega)) tk (by rfl) T.g__law_pick T.F__law_pick.kp T.b__law_pick (sa_cons (se_slot 0) (sa_cons (se_lst false (sa_cons se_str (sa_cons se_str (sa_cons se_str (sa_cons se_str (sa_cons se_str sa_nil)))))) sa_nil)))) se_str))) sss_nil)
    (sss_cons (ss_if (st_eq (se_slot 2) se_int) (sss_one (ss_ret (se_add false (se_call (ok__law_pick T) (hr.mono (by omega)) tk (by rfl) T.g__law_pick T.F__law_pick.kp T.b__law_pick (sa_cons (se_slot 0) (sa_cons (se_slot 1) sa_nil))) se_str))) sss_nil)
    (sss_one (ss_ret (se_call (ok__law_pick T) (hr.mono (by omega)) tk (by rfl) T.g__law_pick T.F__law_pick.kp T.b__law_pick (sa_cons (se_slot 0) (sa_cons (se_lst false (sa_cons se_str (sa_cons se_str (sa_cons se_str sa_nil)))) sa_nil))))))))))))
theorem ok__law_flaw (T : Txt K mg) : FnOk P w K mg base (L2N.CX P w) 3 T.a__law_flaw T.d__law_flaw ["tape"] (spF K mg 1 m__law_flaw) :=
  fn_ok (k := 2) T.F__law_flaw sc__law_flaw fun cdv A outer s H E hr tk hp =>
    (sss_cons (ss_set 1 sc__law_flaw.nd rfl (by first | exact .inl rfl | exact .inr rfl) (se_lst false (sa_cons se_str (sa_cons se_str (sa_cons se_str (sa_cons se_str (sa_cons se_str (sa_cons se_str (sa_cons se_str (sa_cons se_str (sa_cons se_str sa_nil)))))))))))
    (sss_cons (ss_setLc false [("sign", 3)] 2 rfl sc__law_flaw.nd rfl rfl (sw_true rfl rfl rfl rfl) (si_str se_str) (blkOk_by (N := ["tape", "flaws", "signs", "sign"]) (sc := defScope s__law_flaw) (by decide +kernel)) (fun _ _ _ _ _ => (sgv_name 3 sc__law_flaw.nd rfl (by first | exact .inl rfl | exact .inr rfl))) (fun _ _ _ _ _ => sts_nil) (fun _ _ _ _ _ => (se_slot 3)))
    (sss_cons (ss_set 1 sc__law_flaw.nd rfl (by first | exact .inl rfl | exact .inr rfl) (se_add false (se_slot 1) (se_lst false (sa_cons se_str (sa_cons se_str (sa_cons se_str sa_nil))))))
    (sss_one (ss_ret (se_call (ok__law_pick T) (hr.mono (by omega)) tk (by rfl) T.g__law_pick T.F__law_pick.kp T.b__law_pick (sa_cons (se_slot 0) (sa_cons (se_add false (se_slot 1) (se_mulS (se_lst false (sa_cons (se_call (ok__law_pick T) (hr.mono (by omega)) tk (by rfl) T.g__law_pick T.F__law_pick.kp T.b__law_pick (sa_cons (se_slot 0) (sa_cons (se_slot 2) sa_nil))) sa_nil)) se_int)) sa_nil))))))))
theorem ok__law_split_alike (T : Txt K mg) : FnOk P w K mg base (L2N.CX P w) 13 T.a__law_split_alike T.d__law_split_alike ["text"] (spF K mg 1 m__law_split_alike) :=
  fn_ok (k := 12) T.F__law_split_alike sc__law_split_alike fun cdv A outer s H E hr tk hp =>
    (sss_cons (ss_set 1 sc__law_split_alike.nd rfl (by first | exact .inl rfl | exact .inr rfl) (se_call (ok__law_split T) (hr.mono (by omega)) tk (by rfl) T.g__law_split T.F__law_split.kp T.b__law_split (sa_cons (se_slot 0) sa_nil)))
    (sss_cons (ss_try 2 ["FormulaError"] rfl rfl rfl sc__law_split_alike.nd rfl rfl ⟨rfl, by decide, .inl T.gc_SheetError⟩ tk T.k_SheetError (fun W pn xe tk hp => (sss_one (ss_set 3 sc__law_split_alike.nd rfl (by first | exact .inl rfl | exact .inr rfl) (se_call (ok_split_text T) (hr.mono (by omega)) tk (by rfl) T.g_split_text T.F_split_text.kp T.b_split_text (sa_cons (se_slot 0) sa_nil))))) (fun a oe cls d pn hz hf => (sss_cons (ss_set 4 sc__law_split_alike.nd rfl (by first | exact .inl rfl | exact .inr rfl) (se_and (se_isx (TabOk.cons T.q_FormulaError T.x_FormulaError_FormulaError TabOk.nil) (hm := T.z_isinstance) (hmT := T.gc_FormulaError) (ha := (se_slot 2))) (se_one (se_callP rfl (okP__law_single T) (roomH_mark hr (by omega)) tk0 (by rfl) T.g__law_single T.F__law_single.kp T.b__law_single (sa_cons (se_slot 2) sa_nil)))))
    (sss_one (ss_ret (se_and (se_slot 4) (se_and (se_isnot (se_ix (se_slot 1) se_int) se_non) (se_one (se_callP rfl (okP__law_same T 12) (roomH_mark hr (by omega)) tk0 (by rfl) T.g__law_same T.F__law_same.kp T.b__law_same (sa_cons (se_tup (sa_cons (se_fld T.q_FormulaError T.n_FormulaError_place hz hf (se_slot 2)) (sa_cons (se_fld T.q_FormulaError T.n_FormulaError_reason hz hf (se_slot 2)) sa_nil))) (sa_cons (se_ix (se_slot 1) se_int) sa_nil)))))))))))
    (sss_one (ss_ret (se_and (se_is (se_ix (se_slot 1) se_int) se_non) (se_one (se_call (ok__law_same T 12) (hr.mono (by omega)) tk (by rfl) T.g__law_same T.F__law_same.kp T.b__law_same (sa_cons (se_slot 3) (sa_cons (se_tuple (hm := T.z_tuple) (ha := (sa_cons (se_ix (se_slot 1) se_int) sa_nil))) sa_nil)))))))))
theorem ok_law (T : Txt K mg) : FnOk P w K mg base (L2N.CX P w) 14 T.a_law T.d_law ["script"] (spF K mg 1 m_law) :=
  fn_ok (k := 13) T.F_law sc_law fun cdv A outer s H E hr tk hp =>
    (sss_cons (ss_set 1 sc_law.nd rfl (by first | exact .inl rfl | exact .inr rfl) (se_call (ok__law_tape T) (hr.mono (by omega)) tk (by rfl) T.g__law_tape T.F__law_tape.kp T.b__law_tape (sa_cons (se_slot 0) sa_nil)))
    (sss_cons (ss_set 2 sc_law.nd rfl (by first | exact .inl rfl | exact .inr rfl) (se_lst true sa_nil))
    (sss_cons (ss_for hp rfl (si_rng1 (hm := T.z_range) (ha := (sa_cons se_int sa_nil))) (sg_name 3 sc_law.nd rfl (by first | exact .inl rfl | exact .inr rfl)) (sss_cons (ss_set 6 sc_law.nd rfl (by first | exact .inl rfl | exact .inr rfl) se_str)
    (sss_cons (ss_for hp rfl (si_rng1 (hm := T.z_range) (ha := (sa_cons (se_call (ok__law_draw T) (hr.mono (by omega)) tk (by rfl) T.g__law_draw T.F__law_draw.kp T.b__law_draw (sa_cons (se_slot 1) (sa_cons se_int sa_nil))) sa_nil))) (sg_name 7 sc_law.nd rfl (by first | exact .inl rfl | exact .inr rfl)) (sss_one (ss_set 6 sc_law.nd rfl (by first | exact .inl rfl | exact .inr rfl) (se_add false (se_add false (se_slot 6) (se_call (ok__law_piece T) (hr.mono (by omega)) tk (by rfl) T.g__law_piece T.F__law_piece.kp T.b__law_piece (sa_cons (se_slot 1) sa_nil))) (se_call (ok__law_pick T) (hr.mono (by omega)) tk (by rfl) T.g__law_pick T.F__law_pick.kp T.b__law_pick (sa_cons (se_slot 1) (sa_cons (se_lst false (sa_cons se_str (sa_cons se_str (sa_cons se_str sa_nil)))) sa_nil)))))))
    (sss_cons (ss_set 5 sc_law.nd rfl (by first | exact .inl rfl | exact .inr rfl) (se_call (ok__law_draw T) (hr.mono (by omega)) tk (by rfl) T.g__law_draw T.F__law_draw.kp T.b__law_draw (sa_cons (se_slot 1) (sa_cons (se_add false (se_len (hm := T.z_len) (ha := (sa_cons (se_slot 6) sa_nil))) se_int) sa_nil))))
    (sss_cons (ss_set 6 sc_law.nd rfl (by first | exact .inl rfl | exact .inr rfl) (se_add false (se_add false (se_sl false (se_slot 6) so_none (so_some (se_slot 5))) (se_ix (se_lst false (sa_cons (se_call (ok__law_flaw T) (hr.mono (by omega)) tk (by rfl) T.g__law_flaw T.F__law_flaw.kp T.b__law_flaw (sa_cons (se_slot 1) sa_nil)) (sa_cons se_str (sa_cons se_str sa_nil)))) (se_call (ok__law_draw T) (hr.mono (by omega)) tk (by rfl) T.g__law_draw T.F__law_draw.kp T.b__law_draw (sa_cons (se_slot 1) (sa_cons se_int sa_nil))))) (se_sl false (se_slot 6) (so_some (se_slot 5)) so_none)))
    (sss_cons (ss_if (st_not (st_truth (se_call (ok__law_split_alike T) (hr.mono (by omega)) tk (by rfl) T.g__law_split_alike T.F__law_split_alike.kp T.b__law_split_alike (sa_cons (se_slot 6) sa_nil)))) (sss_one (ss_ret se_bl)) sss_nil)
    (sss_one (ss_exp (se_append (ho := (se_slot 2)) (ha := (sa_cons (se_slot 6) sa_nil)))))))))))
    (sss_cons (ss_if (st_eq (se_call (ok__law_draw T) (hr.mono (by omega)) tk (by rfl) T.g__law_draw T.F__law_draw.kp T.b__law_draw (sa_cons (se_slot 1) (sa_cons se_int sa_nil))) se_int) (sss_cons (ss_set 6 sc_law.nd rfl (by first | exact .inl rfl | exact .inr rfl) (se_mulS (se_add false (se_sl false (se_ix (se_slot 2) se_int) so_none (so_some se_int)) se_str) se_int))
    (sss_one (ss_ret (se_and (se_call (ok__law_split_alike T) (hr.mono (by omega)) tk (by rfl) T.g__law_split_alike T.F__law_split_alike.kp T.b__law_split_alike (sa_cons (se_sl false (se_slot 6) so_none (so_some se_int)) sa_nil)) (se_one (se_call (ok__law_split_alike T) (hr.mono (by omega)) tk (by rfl) T.g__law_split_alike T.F__law_split_alike.kp T.b__law_split_alike (sa_cons (se_add false (se_mulS (se_add false (se_sl false (se_ix (se_slot 2) se_int) so_none (so_some se_int)) se_str) se_int) se_str) sa_nil))))))) sss_nil)
    (sss_cons (ss_if (st_not (st_truth (se_call (ok__law_split_alike T) (hr.mono (by omega)) tk (by rfl) T.g__law_split_alike T.F__law_split_alike.kp T.b__law_split_alike (sa_cons (se_add false (se_add false (se_ix (se_slot 2) se_int) se_str) (se_ix (se_slot 2) se_int)) sa_nil)))) (sss_one (ss_ret se_bl)) sss_nil)
    (sss_cons (ss_set 4 sc_law.nd rfl (by first | exact .inl rfl | exact .inr rfl) (se_call (ok__law_draw T) (hr.mono (by omega)) tk (by rfl) T.g__law_draw T.F__law_draw.kp T.b__law_draw (sa_cons (se_slot 1) (sa_cons (se_add false (se_len (hm := T.z_len) (ha := (sa_cons (se_ix (se_slot 2) se_int) sa_nil))) se_int) sa_nil))))
    (sss_cons (ss_for hp rfl (si_rng2 (hm := T.z_range) (ha := (sa_cons (se_slot 4) (sa_cons (se_min2 (hm := T.z_min) (ha := (sa_cons (se_add false (se_slot 4) se_int) (sa_cons (se_len (hm := T.z_len) (ha := (sa_cons (se_ix (se_slot 2) se_int) sa_nil))) sa_nil)))) sa_nil)))) (sg_name 5 sc_law.nd rfl (by first | exact .inl rfl | exact .inr rfl)) (sss_one (ss_if (st_not (st_truth (se_call (ok__law_split_alike T) (hr.mono (by omega)) tk (by rfl) T.g__law_split_alike T.F__law_split_alike.kp T.b__law_split_alike (sa_cons (se_sl false (se_ix (se_slot 2) se_int) (so_some (se_slot 5)) (so_some (se_add false (se_slot 5) se_int))) sa_nil)))) (sss_one (ss_ret se_bl)) sss_nil)))
    (sss_one (ss_ret (se_call (ok__law_split_alike T) (hr.mono (by omega)) tk (by rfl) T.g__law_split_alike T.F__law_split_alike.kp T.b__law_split_alike (sa_cons se_str sa_nil)))))))))))
end
end K09

set_option Elab.async false
set_option linter.all false
set_option maxRecDepth 100000
/-! rows of execution for exceptions and texts; texts as lists of code points -/
namespace Py
open PySem PySem.Spec PyProof.Rows L2
section
variable {S S' : Store} {env : Env} {c : Str}
theorem x_raise : sRaise c env S = .exc ⟨c, []⟩ env S := (rfl)
def raiK (c : Str) (fs : List Str) (env : Env) (ds : List D) (S' : Store) : SR := if ds.length = fs.length then .exc ⟨c, (fs.zip ds).reverse⟩ env S' else .stuck
theorem x_raiseI {fs : List Str} {mas : MA} : sRaiseI c fs mas env S = sK env (raiK c fs env) (mas env S) := x_sBnd
theorem rai_2 {f1 f2 : Str} {d1 d2 : D} : raiK c [f1, f2] env [d1, d2] S = .exc ⟨c, [(f2, d2), (f1, d1)]⟩ env S := (rfl)
noncomputable def tryK (i : Nat) (cs : List Str) (b : MS) : SR → SR
  | .exc x e s => if x.cls ∈ cs then sHot s (b (e.set i (some (.hot x.cls (x.fs.map (·.1)) (x.fs.map (·.2))))) s) else .stuck
  | r => r
theorem x_try {i : Nat} {cs : List Str} {a b : MS} : sTry i cs a b env S = tryK i cs b (a env S) := by
  unfold sTry
  cases a env S <;> rfl
theorem try_nx {i : Nat} {cs : List Str} {b : MS} : tryK i cs b (.nx env S) = .nx env S := (rfl)
theorem try_rt {i : Nat} {cs : List Str} {b : MS} {d : D} : tryK i cs b (.rt d S) = .rt d S := (rfl)
theorem try_e0 {i : Nat} {cs : List Str} {b : MS} : tryK i (c :: cs) b (.exc ⟨c, []⟩ env S) = sHot S (b (env.set i (some (.hot c [] []))) S) := if_pos (List.mem_cons_self ..)
theorem try_e2 {i : Nat} {cs : List Str} {b : MS} {f1 f2 : Str} {d1 d2 : D} : tryK i (c :: cs) b (.exc ⟨c, [(f2, d2), (f1, d1)]⟩ env S) = sHot S (b (env.set i (some (.hot c [f2, f1] [d2, d1]))) S) := if_pos (List.mem_cons_self ..)
theorem hot_bl {p : Bool} : sHot S (.rt (.bl p) S) = .rt (.bl p) S := if_pos ⟨rfl, rfl⟩
def isxK (tab : List (Str × Bool)) (x : D) (S : Store) : Res D := match x with
  | .hot C _ _ => (match tab.lookup C with
    | some b => .ok (.bl b) S
    | none => .stuck)
  | _ => .stuck
theorem x_isx {tab : List (Str × Bool)} {ma : ME} : mIsX tab ma env S = bndK (isxK tab) (ma env S) := x_bnd
theorem isx_1 {b : Bool} {tab : List (Str × Bool)} {ks : List Str} {ds : List D} : isxK ((c, b) :: tab) (.hot c ks ds) S = .ok (.bl b) S := by
  simp [isxK, List.lookup]
def fldK (C n : Str) (x : D) (S : Store) : Res D := match x with
  | .hot D ks ds => if D = C then (match (ks.zip ds).lookup n with
    | some d => .ok d S
    | none => .stuck) else .stuck
  | _ => .stuck
theorem x_fld {C n : Str} {ma : ME} : mFld C n ma env S = bndK (fldK C n) (ma env S) := x_bnd
theorem fld_1 {k : Str} {ks : List Str} {d : D} {ds : List D} : fldK c k (.hot c (k :: ks) (d :: ds)) S = .ok d S := by
  simp [fldK, List.lookup]
theorem fld_2 {k k2 : Str} {ks : List Str} {d d2 : D} {ds : List D} (h : (k2 == k) = false) : fldK c k2 (.hot c (k :: k2 :: ks) (d :: d2 :: ds)) S = .ok d2 S := by
  simp [fldK, List.lookup, h]
theorem cnt_r {ds : List D} {d : D} (h : flatD d = true ∧ ds.all flatD = true) : gCount (.rol ds) [d] S = .ok (.int ((ds.countP fun e => eqD e d : Nat) : Int)) S := if_pos h
end
/-! ### texts as lists -/
abbrev L (l : List Nat) : Str := SX.S l
section
variable {S : Store}
theorem L_len (l : List Nat) : (L l).length = l.length := SX.S_len l
theorem L_app (a b : List Nat) : L a ++ L b = L (a ++ b) := SX.S_cat a b
theorem L_of (x : Str) : L x.cps.toList = x := SX.S_tl x
theorem L_inj {a b : List Nat} (h : L a = L b) : a = b := SX.S_inj h
theorem L_eq {a b : List Nat} : (L a = L b) = (a = b) := propext ⟨SX.S_inj, fun e => by rw [e]⟩
theorem lit_L (s : String) (l : List Nat) (h : (PySem.Str.ofString s).cps.toList = l) : PySem.Str.ofString s = L l := by rw [← h]
theorem cut_L {a : List Nat} {lo hi : Option Int} : cutS (L a) lo hi = L ((a.drop (HT.sIx a.length 0 lo)).take (HT.sIx a.length a.length hi - HT.sIx a.length 0 lo)) := by
  unfold cutS
  rw [L_len]
theorem sl_L {a : List Nat} {lo hi : Option Int} {o : Bool} (h : a.length ≤ 10000000) : dSl o (.str (L a)) lo hi S = .ok (.str (L ((a.drop (HT.sIx a.length 0 lo)).take (HT.sIx a.length a.length hi - HT.sIx a.length 0 lo)))) S := by
  rw [← cut_L]
  exact if_pos (by rw [L_len, sizeLine_eq]; omega)
theorem sIx_none {n d : Nat} : HT.sIx n d none = d := rfl
theorem sIx_nat {n d k : Nat} : HT.sIx n d (some (k : Int)) = min k n := by
  simp only [HT.sIx]
  split <;> omega
theorem part_n {a : List Nat} {c : Nat} (h : c ∉ a) : Txt.partition (L a) (L [c]) = (L a, L [], L []) := SX.partition_none (by simp) (SX.par_head_none h)
theorem part_s {p q : List Nat} {c : Nat} (h : c ∉ p) : Txt.partition (L (p ++ c :: q)) (L [c]) = (L p, L [c], L q) := SX.partition_some (by simp) (SX.par_head q h)
theorem gpart_n {a : List Nat} {c : Nat} (h : c ∉ a) (hl : a.length ≤ 10000000) : gPartition (.str (L a)) [.str (L [c])] S = .ok (.tup [.str (L a), .str (L []), .str (L [])]) S := by
  have z : gPartition (.str (L a)) [.str (L [c])] S = .ok (.tup [.str (Txt.partition (L a) (L [c])).1, .str (Txt.partition (L a) (L [c])).2.1, .str (Txt.partition (L a) (L [c])).2.2]) S := if_pos ⟨by rw [L_len]; rfl, by rw [L_len, sizeLine_eq]; omega⟩
  rw [z, part_n h]
theorem gpart_s {p q : List Nat} {c : Nat} (h : c ∉ p) (hl : (p ++ c :: q).length ≤ 10000000) : gPartition (.str (L (p ++ c :: q))) [.str (L [c])] S = .ok (.tup [.str (L p), .str (L [c]), .str (L q)]) S := by
  have z : gPartition (.str (L (p ++ c :: q))) [.str (L [c])] S = .ok (.tup [.str (Txt.partition (L (p ++ c :: q)) (L [c])).1, .str (Txt.partition (L (p ++ c :: q)) (L [c])).2.1, .str (Txt.partition (L (p ++ c :: q)) (L [c])).2.2]) S := if_pos ⟨by rw [L_len]; rfl, by rw [L_len, sizeLine_eq]; omega⟩
  rw [z, part_s h]
/-- every list is free of c, or has a first c -/
theorem first_of (c : Nat) : ∀ a : List Nat, c ∉ a ∨ ∃ p q, a = p ++ c :: q ∧ c ∉ p
  | [] => .inl (by simp)
  | x :: a => by
    by_cases h : x = c
    · exact .inr ⟨[], a, by rw [h]; rfl, by simp⟩
    · rcases first_of c a with i | ⟨p, q, e, i⟩
      · exact .inl (by simp [Ne.symm h, i])
      · exact .inr ⟨x :: p, q, by rw [e]; rfl, by simp [Ne.symm h, i]⟩
theorem sub_L (a b : List Nat) (i : Nat) : Builtin.Str.subAt (L a) (L b) i = ((a.drop i).take b.length == b) := by
  unfold Builtin.Str.subAt
  rw [L_len]
  have e : (L a).cps.extract i (i + b.length) = ((a.drop i).take b.length).toArray := by
    show a.toArray.extract i (i + b.length) = _
    rw [List.extract_toArray, List.extract_eq_take_drop]
    congr 2
    omega
  rw [e]
  show (((a.drop i).take b.length).toArray == b.toArray) = _
  simp
theorem rem_L (c : Nat) (a : List Nat) : Txt.removeprefix (L a) (L [c]) = L (if a.head? = some c then a.tail else a) := by
  unfold Txt.removeprefix
  rw [sub_L]
  cases a with
  | nil => rfl
  | cons x a =>
    by_cases h : x = c
    · subst h
      have e : (((x :: a).drop 0).take [x].length == [x]) = true := by simp
      rw [e, if_pos rfl]
      unfold Txt.affix
      simp only [L_len, List.length_cons, List.length_nil, List.head?_cons, List.tail_cons]
      rw [if_neg (by simp), if_pos trivial]
      unfold Builtin.Str.strSub
      show (⟨(x :: a).toArray.extract _ _⟩ : Str) = _
      rw [List.extract_toArray, List.extract_eq_take_drop]
      simp
    · have e : (((x :: a).drop 0).take [c].length == [c]) = false := by simp [h]
      rw [e, if_neg (by simp), if_neg (by simp [h])]
      rfl
theorem grem_L {c : Nat} {a : List Nat} (hl : a.length ≤ 10000000) : gRemovePrefix (.str (L a)) [.str (L [c])] S = .ok (.str (L (if a.head? = some c then a.tail else a))) S := by
  rw [← rem_L]
  exact if_pos (by rw [L_len, sizeLine_eq]; omega)
def isD (c : Nat) : Bool := decide (48 ≤ c ∧ c ≤ 57)
theorem uni_digit : ∀ c, c < 128 → Unicode.isDigit c = isD c := by
  have h : (List.range 128).all (fun c => Unicode.isDigit c == isD c) = true := by decide +kernel
  intro c hc
  exact eq_of_beq (List.all_eq_true.mp h c (List.mem_range.mpr hc))
theorem ascii_digit (a : List Nat) : (Txt.isascii (L a) && Txt.isdigit (L a)) = (!a.isEmpty && a.all isD) := by
  unfold Txt.isascii Txt.isdigit
  rw [L_len]
  show (a.toArray.all (fun c => decide (c < 128)) && (decide (a.length > 0) && a.toArray.all Unicode.isDigit)) = _
  rw [List.all_toArray, List.all_toArray]
  cases a with
  | nil => rfl
  | cons x a =>
    have key : ∀ l : List Nat, (l.all (fun c => decide (c < 128)) && l.all Unicode.isDigit) = l.all isD := by
      intro l
      induction l with
      | nil => rfl
      | cons y l ih =>
        simp only [List.all_cons]
        by_cases hy : y < 128
        · rw [uni_digit y hy, ← ih]
          simp only [hy, decide_true, Bool.true_and]
          cases isD y <;> cases l.all (fun c => decide (c < 128)) <;> rfl
        · have : isD y = false := by unfold isD; simp; omega
          rw [this]
          simp [hy]
    simp only [List.length_cons, List.isEmpty_cons, Bool.not_false, Bool.true_and, gt_iff_lt, Nat.zero_lt_succ, decide_true]
    exact key (x :: a)
theorem in_L (a : List Nat) (c : Nat) : strIn (L [c]) (L a) = decide (c ∈ a) := rfl
end
end Py

set_option Elab.async false
set_option linter.all false
set_option maxHeartbeats 1000000
set_option maxRecDepth 100000
/-! what the laws' helpers give -/
namespace Py
open PySem PySem.Spec PyProof.Rows L2
theorem natAbs_pow_lt {i : Int} {n : Nat} (h1 : -(2 ^ n : Int) < i) (h2 : i < 2 ^ n) : i.natAbs < 2 ^ n := by
  have e : ((2 : Nat) ^ n : Int) = (2 : Int) ^ n := by norm_cast
  omega
theorem cmul {i j : Int} {a b : Nat} (ha : i.natAbs < 2 ^ a) (hb : j.natAbs < 2 ^ b) (h0 : 0 < a := by decide) (h1 : 0 < b := by decide) (h : a + b ≤ 1000000 := by decide) : CMulW i j := wide_mul ha hb h0 h1 h
theorem cdiv {i j : Int} {b : Nat} (h : j ≠ 0) (hb : j.natAbs < 2 ^ b) (h0 : 0 < b := by decide) (h9 : b ≤ 9000 := by decide) : CDivZ i j := ⟨h, Nat.lt_of_lt_of_le (PySem.Flt.log2_lt_of h0 hb) h9⟩
/-! ### the tape -/
def tapeO (cells : List Int) (p b s : Int) : Ob := .lst [.rol (cells.map .int), .int p, .int b, .int s]
structure Tape (cells : List Int) (c : Nat) (T S : Store) : Prop where
  ex : ∃ p b s : Int, S = tapeO cells p b s :: T ∧ 0 ≤ p ∧ p ≤ c ∧ 0 ≤ b ∧ 0 ≤ s ∧ s < 2147483647
theorem Tape.mono {cells : List Int} {c d : Nat} {T S : Store} (h : Tape cells c T S) (hd : c ≤ d) : Tape cells d T S := by
  obtain ⟨p, b, s, e, h0, h1, h2⟩ := h.ex
  exact ⟨p, b, s, e, h0, by omega, h2⟩
theorem tape_loop (g : MG) (b : MS) (hg : g = gNm 2) (hb : b = L__law_tape_1) (z : D) (S : Store) :
    ∀ (ns : List Int) (t : Int) (o : Option D), 0 ≤ t → t < 2147483647 → ∃ t' o', 0 ≤ t' ∧ t' < 2147483647 ∧ forP g b (ns.map .int) [some z, some (.int t), o] S = .nx [some z, some (.int t'), o'] S
  | [], t, o, h0, h1 => ⟨t, o, h0, h1, fp_nil⟩
  | n :: ns, t, o, h0, h1 => by
    have c1 : CMulW t 31 := cmul (a := 32) (b := 6) (by omega) (by decide)
    have e : ∀ x : Int, (x.fmod 2147483647) = x % 2147483647 := fun x => Int.fmod_eq_emod_of_nonneg x (by omega)
    obtain ⟨t', o', g0, g1, g2⟩ := tape_loop g b hg hb z S ns ((t * 31 + if n < 0 then -n else n) % 2147483647) (some (.int n)) (Int.emod_nonneg _ (by omega)) (Int.emod_lt_of_pos _ (by omega))
    refine ⟨t', o', g0, g1, ?_⟩
    rw [← g2]
    subst hg hb
    simp only [L__law_tape_1, List.map_cons, fp_cons, x_bnd, k_ok, k_exc, k_stuck, x_giv, x_fail, selM_t, selM_f, selS_t, selS_f, sK_ok, sK_exc, sK_stuck, x_seq, seq_nx, seq_bk, seq_ct, seq_rt, seq_exc, seq_stuck, x_ret, x_retN, x_exp, x_set, x_nil, x_brk, x_cnt, x_tgt, tK_ok, tK_stuck, x_asgK, x_asg, ifK_t, ifK_f, x_if, x_fgK, fK_bk, fK_rt, fK_exc, for_src, x_fpK, fpK_nx, fpK_ct, srcK_nil, srcK_rng, x_for, x_def, defK_rt, defK_nx, defK_exc, slot_some, x_slot, x_c, x_Nil, x_consK, x_cons, x_F, x_m2K, x_m2, x_m1, x_B, x_T, asB_bl, asT_bl, asT_int, asT_non, asT_tup, asT_rol, asT_frz, x_And, x_Or, andK_t, andK_f, orK_t, orK_f, x_Not, x_AndV, x_OrV, x_andVK, x_orVK, x_NotV, x_IfE, ifEK_t, ifEK_f, x_Tup, x_Lst, x_mkF, x_mkT, x_Call, add_ii, sub_ii, neg_i, cmp_ii, eq_ii, eq_bb, eq_ss, ne_ii, ne_ss, is_n, isnot_n, non_n, non_i, non_b, non_s, non_t, non_r, non_o, ix_t, ix_r, ix_f, lst_s, ix_oo, len_oo, srcL_oo, set_oo, setO_l, opt_s, len_t, len_r, len_f, abs_i, int_i, int_b, max_ii, min_ii, gcd_ii, list_f, list_r, list_t, tuple_r, tuple_t, x_It, x_Nm, x_Tp, x_gN, x_gC, x_iE, x_iF, srcL_f, srcL_r, srcT_t, srcS_s, x_Isi, isi_tt, isi_ti, isi_tn, isi_tb, isi_ts, isi_bt, isi_bi, isi_bn, isi_bb, isi_bs, isi_st, isi_si, isi_sn, isi_sb, isi_ss, isi_it, isi_ii, isi_in, isi_ib, isi_is, at0, at1, at2, at3, ix0, ix1, ix2, ix3, whC_t, whC_f, whK_nx, whK_ct, whK_bk, whK_rt, List.map_cons, List.map_nil, List.length_cons, List.length_nil, List.replicate_succ, List.replicate_zero, List.set_cons_zero, List.set_cons_succ, List.cons_append, List.nil_append, List.append_nil, Nat.reduceAdd, Nat.reduceSub, Nat.sub_zero, Nat.sub_self, Nat.zero_add, List.getElem?_cons_zero, List.getElem?_cons_succ, decide_true, decide_false, Bool.not_true, Bool.not_false, List.isEmpty_cons, List.isEmpty_nil, Nat.reduceLeDiff, Nat.reduceSucc, x_Me, x_meK, x_Me0, ty_ss, ty_lo, ty_ll, ty_dd, ty_lr, ap_o, up_l, pop_o, pop_l, asT_o, tru_l, tru_d, ext_o, lsts_r, lsts_t, x_chain, in_ssF, in_ssT, in_t, in_r, in_o, inK_sF, inK_sT, flat_s, flat_i, List.all_cons, List.all_nil, Bool.and_true, Bool.true_and, rev_t, rev_r, sum_r, maxL_r, minL_r, any_r, all_r, inc_ii, x_aug, x_lc, x_lc2, lcEnd_f, lcEnd_t, x_yes, x_Sl, x_oN, x_oS, asI_i, sl_t, sl_r, cut1, js_nil, js_cons, add_or, mul_ii c1, mod_ii (show (2147483647 : Int) ≠ 0 by decide), e]
theorem tape_spec (ns : List Int) (T : Store) : ∃ S, m__law_tape [.frz (ns.map .int)] [] = .ok (.obj 0) S ∧ Tape ns 0 [] S := by
  obtain ⟨t', o', g0, g1, g2⟩ := tape_loop (gNm 2) L__law_tape_1 rfl rfl (.frz (ns.map .int)) [] ns 7 none (by decide) (by decide)
  refine ⟨[tapeO ns 0 0 t'], ?_, ⟨0, 0, t', rfl, by decide, by decide, by decide, g0, g1⟩⟩
  simp only [m__law_tape, x_bnd, k_ok, k_exc, k_stuck, x_giv, x_fail, selM_t, selM_f, selS_t, selS_f, sK_ok, sK_exc, sK_stuck, x_seq, seq_nx, seq_bk, seq_ct, seq_rt, seq_exc, seq_stuck, x_ret, x_retN, x_exp, x_set, x_nil, x_brk, x_cnt, x_tgt, tK_ok, tK_stuck, x_asgK, x_asg, ifK_t, ifK_f, x_if, x_fgK, fK_bk, fK_rt, fK_exc, for_src, x_fpK, fpK_nx, fpK_ct, srcK_nil, srcK_rng, x_for, x_def, defK_rt, defK_nx, defK_exc, slot_some, x_slot, x_c, x_Nil, x_consK, x_cons, x_F, x_m2K, x_m2, x_m1, x_B, x_T, asB_bl, asT_bl, asT_int, asT_non, asT_tup, asT_rol, asT_frz, x_And, x_Or, andK_t, andK_f, orK_t, orK_f, x_Not, x_AndV, x_OrV, x_andVK, x_orVK, x_NotV, x_IfE, ifEK_t, ifEK_f, x_Tup, x_Lst, x_mkF, x_mkT, x_Call, add_ii, sub_ii, neg_i, cmp_ii, eq_ii, eq_bb, eq_ss, ne_ii, ne_ss, is_n, isnot_n, non_n, non_i, non_b, non_s, non_t, non_r, non_o, ix_t, ix_r, ix_f, lst_s, ix_oo, len_oo, srcL_oo, set_oo, setO_l, opt_s, len_t, len_r, len_f, abs_i, int_i, int_b, max_ii, min_ii, gcd_ii, list_f, list_r, list_t, tuple_r, tuple_t, x_It, x_Nm, x_Tp, x_gN, x_gC, x_iE, x_iF, srcL_f, srcL_r, srcT_t, srcS_s, x_Isi, isi_tt, isi_ti, isi_tn, isi_tb, isi_ts, isi_bt, isi_bi, isi_bn, isi_bb, isi_bs, isi_st, isi_si, isi_sn, isi_sb, isi_ss, isi_it, isi_ii, isi_in, isi_ib, isi_is, at0, at1, at2, at3, ix0, ix1, ix2, ix3, whC_t, whC_f, whK_nx, whK_ct, whK_bk, whK_rt, List.map_cons, List.map_nil, List.length_cons, List.length_nil, List.replicate_succ, List.replicate_zero, List.set_cons_zero, List.set_cons_succ, List.cons_append, List.nil_append, List.append_nil, Nat.reduceAdd, Nat.reduceSub, Nat.sub_zero, Nat.sub_self, Nat.zero_add, List.getElem?_cons_zero, List.getElem?_cons_succ, decide_true, decide_false, Bool.not_true, Bool.not_false, List.isEmpty_cons, List.isEmpty_nil, Nat.reduceLeDiff, Nat.reduceSucc, x_Me, x_meK, x_Me0, ty_ss, ty_lo, ty_ll, ty_dd, ty_lr, ap_o, up_l, pop_o, pop_l, asT_o, tru_l, tru_d, ext_o, lsts_r, lsts_t, x_chain, in_ssF, in_ssT, in_t, in_r, in_o, inK_sF, inK_sT, flat_s, flat_i, List.all_cons, List.all_nil, Bool.and_true, Bool.true_and, rev_t, rev_r, sum_r, maxL_r, minL_r, any_r, all_r, inc_ii, x_aug, x_lc, x_lc2, lcEnd_f, lcEnd_t, x_yes, x_Sl, x_oN, x_oS, asI_i, sl_t, sl_r, cut1, js_nil, js_cons, add_or, x_small, g2]
  rfl
theorem at_int {ns : List Int} {p : Int} (h0 : 0 ≤ p) (h : p < ns.length) : ∃ z, z ∈ ns ∧ atI (ns.map D.int) p = some (.int z) := by
  have hk : p.toNat < ns.length := by omega
  have e : p = ((p.toNat : Nat) : Int) := by omega
  have q : atI (ns.map D.int) ((p.toNat : Nat) : Int) = some (.int ns[p.toNat]) := atI_nat (by rw [List.getElem?_map, List.getElem?_eq_getElem hk]; rfl)
  rw [← e] at q
  exact ⟨ns[p.toNat], List.getElem_mem hk, q⟩
theorem len_map {ns : List Int} : (ns.map D.int).length = ns.length := List.length_map _
theorem draw_spec {cells : List Int} {c : Nat} {T S : Store} (h : Tape cells c T S) (hc : c < 2 ^ 60) {m : Int} (hm : m < 2 ^ 64) :
    ∃ r S', m__law_draw [.obj 0, .int m] S = .ok (.int r) S' ∧ Tape cells (c + 1) T S' ∧ 0 ≤ r ∧ r < (if 1 > m then 1 else m) := by
  obtain ⟨p, b, s, rfl, hp0, hp1, hb0, hs0, hs1⟩ := h.ex
  unfold tapeO
  have pm : 0 < (if 1 > m then 1 else m) := by split <;> omega
  have pm2 : 0 < (if 2 > m then 2 else m) := by split <;> omega
  have nz : (if 1 > m then 1 else m) ≠ 0 := by omega
  have dm : CDivZ b (if 2 > m then 2 else m) := cdiv (b := 64) (by omega) (by split <;> omega)
  have cs : CMulW s 48271 := cmul (a := 32) (b := 16) (by omega) (by decide)
  have cp : CMulW p 69621 := cmul (a := 60) (b := 17) (by omega) (by decide)
  have pw : CPow 10 18 := by unfold CPow; decide
  have e : ∀ x y : Int, 0 < y → (x.fmod y) = x % y := fun x y hy => Int.fmod_eq_emod_of_nonneg x (by omega)
  have q1 := fun x : Int => Int.emod_nonneg x (show (2147483647 : Int) ≠ 0 by decide)
  have q2 := fun x : Int => Int.emod_lt_of_pos x (show (0 : Int) < 2147483647 by decide)
  have q3 := fun x : Int => Int.emod_nonneg x (show (2147483629 : Int) ≠ 0 by decide)
  have q4 := fun x : Int => Int.emod_lt_of_pos x (show (0 : Int) < 2147483629 by decide)
  have q5 := fun x : Int => Int.emod_nonneg x nz
  have q6 := fun x : Int => Int.emod_lt_of_pos x pm
  have e1 : ∀ x : Int, x.fmod 2147483647 = x % 2147483647 := fun x => e x _ (by decide)
  have e2 : ∀ x : Int, x.fmod 2147483629 = x % 2147483629 := fun x => e x _ (by decide)
  have e3 : ∀ x : Int, x.fmod (if 1 > m then 1 else m) = x % (if 1 > m then 1 else m) := fun x => e x _ pm
  have fdn : ∀ x : Int, 0 ≤ x → 0 ≤ x.fdiv (if 2 > m then 2 else m) := fun x hx => by
    rw [Int.fdiv_eq_ediv_of_nonneg _ (by omega)]
    exact Int.ediv_nonneg hx (by omega)
  have m1 : (2147483647 : Int) ≠ 0 := by decide
  have m2 : (2147483629 : Int) ≠ 0 := by decide
  by_cases hb : b = 0
  · subst hb
    by_cases hp : p < cells.length
    · obtain ⟨z, hz, ez⟩ := at_int hp0 hp
      have hn : 0 ≤ (if z < 0 then -z else z) := by split <;> omega
      by_cases hlt : (if z < 0 then -z else z) < 10 ^ Int.toNat 18
      · have hlt' : (if z < 0 then -z else z) < 10 ^ 18 := hlt
        have c1 : CMulW (if z < 0 then -z else z) 48271 := cmul (a := 60) (b := 16) (by omega) (by decide)
        have c2 : CMulW (((if z < 0 then -z else z) * 48271 + p * 69621 + 5) % 2147483647) 69621 := by
          have := q1 ((if z < 0 then -z else z) * 48271 + p * 69621 + 5)
          have := q2 ((if z < 0 then -z else z) * 48271 + p * 69621 + 5)
          exact cmul (a := 32) (b := 17) (by omega) (by decide)
        refine ⟨_, _, ?_, ⟨p + 1, 0, s, rfl, by omega, by omega, by omega, hs0, hs1⟩, q5 (((if z < 0 then -z else z) * 48271 + p * 69621 + 5) % 2147483647 * 69621 % 2147483629), q6 (((if z < 0 then -z else z) * 48271 + p * 69621 + 5) % 2147483647 * 69621 % 2147483629)⟩
        simp only [m__law_draw, x_bnd, k_ok, k_exc, k_stuck, x_giv, x_fail, selM_t, selM_f, selS_t, selS_f, sK_ok, sK_exc, sK_stuck, x_seq, seq_nx, seq_bk, seq_ct, seq_rt, seq_exc, seq_stuck, x_ret, x_retN, x_exp, x_set, x_nil, x_brk, x_cnt, x_tgt, tK_ok, tK_stuck, x_asgK, x_asg, ifK_t, ifK_f, x_if, x_fgK, fK_bk, fK_rt, fK_exc, for_src, x_fpK, fpK_nx, fpK_ct, srcK_nil, srcK_rng, x_for, x_def, defK_rt, defK_nx, defK_exc, slot_some, x_slot, x_c, x_Nil, x_consK, x_cons, x_F, x_m2K, x_m2, x_m1, x_B, x_T, asB_bl, asT_bl, asT_int, asT_non, asT_tup, asT_rol, asT_frz, x_And, x_Or, andK_t, andK_f, orK_t, orK_f, x_Not, x_AndV, x_OrV, x_andVK, x_orVK, x_NotV, x_IfE, ifEK_t, ifEK_f, x_Tup, x_Lst, x_mkF, x_mkT, x_Call, add_ii, sub_ii, neg_i, cmp_ii, eq_ii, eq_bb, eq_ss, ne_ii, ne_ss, is_n, isnot_n, non_n, non_i, non_b, non_s, non_t, non_r, non_o, ix_t, ix_r, ix_f, lst_s, ix_oo, len_oo, srcL_oo, set_oo, setO_l, opt_s, len_t, len_r, len_f, abs_i, int_i, int_b, max_ii, min_ii, gcd_ii, list_f, list_r, list_t, tuple_r, tuple_t, x_It, x_Nm, x_Tp, x_gN, x_gC, x_iE, x_iF, srcL_f, srcL_r, srcT_t, srcS_s, x_Isi, isi_tt, isi_ti, isi_tn, isi_tb, isi_ts, isi_bt, isi_bi, isi_bn, isi_bb, isi_bs, isi_st, isi_si, isi_sn, isi_sb, isi_ss, isi_it, isi_ii, isi_in, isi_ib, isi_is, at0, at1, at2, at3, ix0, ix1, ix2, ix3, whC_t, whC_f, whK_nx, whK_ct, whK_bk, whK_rt, List.map_cons, List.map_nil, List.length_cons, List.length_nil, List.replicate_succ, List.replicate_zero, List.set_cons_zero, List.set_cons_succ, List.cons_append, List.nil_append, List.append_nil, Nat.reduceAdd, Nat.reduceSub, Nat.sub_zero, Nat.sub_self, Nat.zero_add, List.getElem?_cons_zero, List.getElem?_cons_succ, decide_true, decide_false, Bool.not_true, Bool.not_false, List.isEmpty_cons, List.isEmpty_nil, Nat.reduceLeDiff, Nat.reduceSucc, x_Me, x_meK, x_Me0, ty_ss, ty_lo, ty_ll, ty_dd, ty_lr, ap_o, up_l, pop_o, pop_l, asT_o, tru_l, tru_d, ext_o, lsts_r, lsts_t, x_chain, in_ssF, in_ssT, in_t, in_r, in_o, inK_sF, inK_sT, flat_s, flat_i, List.all_cons, List.all_nil, Bool.and_true, Bool.true_and, rev_t, rev_r, sum_r, maxL_r, minL_r, any_r, all_r, inc_ii, x_aug, x_lc, x_lc2, lcEnd_f, lcEnd_t, x_yes, x_Sl, x_oN, x_oS, asI_i, sl_t, sl_r, cut1, js_nil, js_cons, add_or, x_small, len_map, hp, ez, pow_ii pw, hlt, mul_ii c1, mul_ii cp, mul_ii c2, mod_ii m1, mod_ii m2, mod_ii nz, e1, e2, e3]
        rfl
      · have dn : CDivZ (if z < 0 then -z else z) (if 2 > m then 2 else m) := cdiv (b := 64) (by omega) (by split <;> omega)
        refine ⟨_, _, ?_, ⟨p + 1, (if z < 0 then -z else z).fdiv (if 2 > m then 2 else m), s, rfl, by omega, by omega, fdn _ hn, hs0, hs1⟩, q5 (if z < 0 then -z else z), q6 (if z < 0 then -z else z)⟩
        simp only [m__law_draw, x_bnd, k_ok, k_exc, k_stuck, x_giv, x_fail, selM_t, selM_f, selS_t, selS_f, sK_ok, sK_exc, sK_stuck, x_seq, seq_nx, seq_bk, seq_ct, seq_rt, seq_exc, seq_stuck, x_ret, x_retN, x_exp, x_set, x_nil, x_brk, x_cnt, x_tgt, tK_ok, tK_stuck, x_asgK, x_asg, ifK_t, ifK_f, x_if, x_fgK, fK_bk, fK_rt, fK_exc, for_src, x_fpK, fpK_nx, fpK_ct, srcK_nil, srcK_rng, x_for, x_def, defK_rt, defK_nx, defK_exc, slot_some, x_slot, x_c, x_Nil, x_consK, x_cons, x_F, x_m2K, x_m2, x_m1, x_B, x_T, asB_bl, asT_bl, asT_int, asT_non, asT_tup, asT_rol, asT_frz, x_And, x_Or, andK_t, andK_f, orK_t, orK_f, x_Not, x_AndV, x_OrV, x_andVK, x_orVK, x_NotV, x_IfE, ifEK_t, ifEK_f, x_Tup, x_Lst, x_mkF, x_mkT, x_Call, add_ii, sub_ii, neg_i, cmp_ii, eq_ii, eq_bb, eq_ss, ne_ii, ne_ss, is_n, isnot_n, non_n, non_i, non_b, non_s, non_t, non_r, non_o, ix_t, ix_r, ix_f, lst_s, ix_oo, len_oo, srcL_oo, set_oo, setO_l, opt_s, len_t, len_r, len_f, abs_i, int_i, int_b, max_ii, min_ii, gcd_ii, list_f, list_r, list_t, tuple_r, tuple_t, x_It, x_Nm, x_Tp, x_gN, x_gC, x_iE, x_iF, srcL_f, srcL_r, srcT_t, srcS_s, x_Isi, isi_tt, isi_ti, isi_tn, isi_tb, isi_ts, isi_bt, isi_bi, isi_bn, isi_bb, isi_bs, isi_st, isi_si, isi_sn, isi_sb, isi_ss, isi_it, isi_ii, isi_in, isi_ib, isi_is, at0, at1, at2, at3, ix0, ix1, ix2, ix3, whC_t, whC_f, whK_nx, whK_ct, whK_bk, whK_rt, List.map_cons, List.map_nil, List.length_cons, List.length_nil, List.replicate_succ, List.replicate_zero, List.set_cons_zero, List.set_cons_succ, List.cons_append, List.nil_append, List.append_nil, Nat.reduceAdd, Nat.reduceSub, Nat.sub_zero, Nat.sub_self, Nat.zero_add, List.getElem?_cons_zero, List.getElem?_cons_succ, decide_true, decide_false, Bool.not_true, Bool.not_false, List.isEmpty_cons, List.isEmpty_nil, Nat.reduceLeDiff, Nat.reduceSucc, x_Me, x_meK, x_Me0, ty_ss, ty_lo, ty_ll, ty_dd, ty_lr, ap_o, up_l, pop_o, pop_l, asT_o, tru_l, tru_d, ext_o, lsts_r, lsts_t, x_chain, in_ssF, in_ssT, in_t, in_r, in_o, inK_sF, inK_sT, flat_s, flat_i, List.all_cons, List.all_nil, Bool.and_true, Bool.true_and, rev_t, rev_r, sum_r, maxL_r, minL_r, any_r, all_r, inc_ii, x_aug, x_lc, x_lc2, lcEnd_f, lcEnd_t, x_yes, x_Sl, x_oN, x_oS, asI_i, sl_t, sl_r, cut1, js_nil, js_cons, add_or, x_small, len_map, hp, ez, pow_ii pw, hlt, div_ii dn, mod_ii nz, e3]
        rfl
    · have w1 := q1 (s * 48271 + p + 1)
      have w2 := q2 (s * 48271 + p + 1)
      have hlt : (s * 48271 + p + 1) % 2147483647 < 10 ^ Int.toNat 18 := Int.lt_trans w2 (by decide)
      have c1 : CMulW ((s * 48271 + p + 1) % 2147483647) 48271 := cmul (a := 60) (b := 16) (by omega) (by decide)
      have c2 : CMulW (((s * 48271 + p + 1) % 2147483647 * 48271 + p * 69621 + 5) % 2147483647) 69621 := by
        have := q1 ((s * 48271 + p + 1) % 2147483647 * 48271 + p * 69621 + 5)
        have := q2 ((s * 48271 + p + 1) % 2147483647 * 48271 + p * 69621 + 5)
        exact cmul (a := 32) (b := 17) (by omega) (by decide)
      refine ⟨_, _, ?_, ⟨p + 1, 0, (s * 48271 + p + 1) % 2147483647, rfl, by omega, by omega, by omega, w1, w2⟩, q5 (((s * 48271 + p + 1) % 2147483647 * 48271 + p * 69621 + 5) % 2147483647 * 69621 % 2147483629), q6 (((s * 48271 + p + 1) % 2147483647 * 48271 + p * 69621 + 5) % 2147483647 * 69621 % 2147483629)⟩
      simp only [m__law_draw, x_bnd, k_ok, k_exc, k_stuck, x_giv, x_fail, selM_t, selM_f, selS_t, selS_f, sK_ok, sK_exc, sK_stuck, x_seq, seq_nx, seq_bk, seq_ct, seq_rt, seq_exc, seq_stuck, x_ret, x_retN, x_exp, x_set, x_nil, x_brk, x_cnt, x_tgt, tK_ok, tK_stuck, x_asgK, x_asg, ifK_t, ifK_f, x_if, x_fgK, fK_bk, fK_rt, fK_exc, for_src, x_fpK, fpK_nx, fpK_ct, srcK_nil, srcK_rng, x_for, x_def, defK_rt, defK_nx, defK_exc, slot_some, x_slot, x_c, x_Nil, x_consK, x_cons, x_F, x_m2K, x_m2, x_m1, x_B, x_T, asB_bl, asT_bl, asT_int, asT_non, asT_tup, asT_rol, asT_frz, x_And, x_Or, andK_t, andK_f, orK_t, orK_f, x_Not, x_AndV, x_OrV, x_andVK, x_orVK, x_NotV, x_IfE, ifEK_t, ifEK_f, x_Tup, x_Lst, x_mkF, x_mkT, x_Call, add_ii, sub_ii, neg_i, cmp_ii, eq_ii, eq_bb, eq_ss, ne_ii, ne_ss, is_n, isnot_n, non_n, non_i, non_b, non_s, non_t, non_r, non_o, ix_t, ix_r, ix_f, lst_s, ix_oo, len_oo, srcL_oo, set_oo, setO_l, opt_s, len_t, len_r, len_f, abs_i, int_i, int_b, max_ii, min_ii, gcd_ii, list_f, list_r, list_t, tuple_r, tuple_t, x_It, x_Nm, x_Tp, x_gN, x_gC, x_iE, x_iF, srcL_f, srcL_r, srcT_t, srcS_s, x_Isi, isi_tt, isi_ti, isi_tn, isi_tb, isi_ts, isi_bt, isi_bi, isi_bn, isi_bb, isi_bs, isi_st, isi_si, isi_sn, isi_sb, isi_ss, isi_it, isi_ii, isi_in, isi_ib, isi_is, at0, at1, at2, at3, ix0, ix1, ix2, ix3, whC_t, whC_f, whK_nx, whK_ct, whK_bk, whK_rt, List.map_cons, List.map_nil, List.length_cons, List.length_nil, List.replicate_succ, List.replicate_zero, List.set_cons_zero, List.set_cons_succ, List.cons_append, List.nil_append, List.append_nil, Nat.reduceAdd, Nat.reduceSub, Nat.sub_zero, Nat.sub_self, Nat.zero_add, List.getElem?_cons_zero, List.getElem?_cons_succ, decide_true, decide_false, Bool.not_true, Bool.not_false, List.isEmpty_cons, List.isEmpty_nil, Nat.reduceLeDiff, Nat.reduceSucc, x_Me, x_meK, x_Me0, ty_ss, ty_lo, ty_ll, ty_dd, ty_lr, ap_o, up_l, pop_o, pop_l, asT_o, tru_l, tru_d, ext_o, lsts_r, lsts_t, x_chain, in_ssF, in_ssT, in_t, in_r, in_o, inK_sF, inK_sT, flat_s, flat_i, List.all_cons, List.all_nil, Bool.and_true, Bool.true_and, rev_t, rev_r, sum_r, maxL_r, minL_r, any_r, all_r, inc_ii, x_aug, x_lc, x_lc2, lcEnd_f, lcEnd_t, x_yes, x_Sl, x_oN, x_oS, asI_i, sl_t, sl_r, cut1, js_nil, js_cons, add_or, x_small, len_map, hp, pow_ii pw, hlt, mul_ii cs, mul_ii c1, mul_ii cp, mul_ii c2, mod_ii m1, mod_ii m2, mod_ii nz, e1, e2, e3]
      rfl
  · refine ⟨_, _, ?_, ⟨p, b.fdiv (if 2 > m then 2 else m), s, rfl, hp0, by omega, fdn b hb0, hs0, hs1⟩, q5 b, q6 b⟩
    simp only [m__law_draw, x_bnd, k_ok, k_exc, k_stuck, x_giv, x_fail, selM_t, selM_f, selS_t, selS_f, sK_ok, sK_exc, sK_stuck, x_seq, seq_nx, seq_bk, seq_ct, seq_rt, seq_exc, seq_stuck, x_ret, x_retN, x_exp, x_set, x_nil, x_brk, x_cnt, x_tgt, tK_ok, tK_stuck, x_asgK, x_asg, ifK_t, ifK_f, x_if, x_fgK, fK_bk, fK_rt, fK_exc, for_src, x_fpK, fpK_nx, fpK_ct, srcK_nil, srcK_rng, x_for, x_def, defK_rt, defK_nx, defK_exc, slot_some, x_slot, x_c, x_Nil, x_consK, x_cons, x_F, x_m2K, x_m2, x_m1, x_B, x_T, asB_bl, asT_bl, asT_int, asT_non, asT_tup, asT_rol, asT_frz, x_And, x_Or, andK_t, andK_f, orK_t, orK_f, x_Not, x_AndV, x_OrV, x_andVK, x_orVK, x_NotV, x_IfE, ifEK_t, ifEK_f, x_Tup, x_Lst, x_mkF, x_mkT, x_Call, add_ii, sub_ii, neg_i, cmp_ii, eq_ii, eq_bb, eq_ss, ne_ii, ne_ss, is_n, isnot_n, non_n, non_i, non_b, non_s, non_t, non_r, non_o, ix_t, ix_r, ix_f, lst_s, ix_oo, len_oo, srcL_oo, set_oo, setO_l, opt_s, len_t, len_r, len_f, abs_i, int_i, int_b, max_ii, min_ii, gcd_ii, list_f, list_r, list_t, tuple_r, tuple_t, x_It, x_Nm, x_Tp, x_gN, x_gC, x_iE, x_iF, srcL_f, srcL_r, srcT_t, srcS_s, x_Isi, isi_tt, isi_ti, isi_tn, isi_tb, isi_ts, isi_bt, isi_bi, isi_bn, isi_bb, isi_bs, isi_st, isi_si, isi_sn, isi_sb, isi_ss, isi_it, isi_ii, isi_in, isi_ib, isi_is, at0, at1, at2, at3, ix0, ix1, ix2, ix3, whC_t, whC_f, whK_nx, whK_ct, whK_bk, whK_rt, List.map_cons, List.map_nil, List.length_cons, List.length_nil, List.replicate_succ, List.replicate_zero, List.set_cons_zero, List.set_cons_succ, List.cons_append, List.nil_append, List.append_nil, Nat.reduceAdd, Nat.reduceSub, Nat.sub_zero, Nat.sub_self, Nat.zero_add, List.getElem?_cons_zero, List.getElem?_cons_succ, decide_true, decide_false, Bool.not_true, Bool.not_false, List.isEmpty_cons, List.isEmpty_nil, Nat.reduceLeDiff, Nat.reduceSucc, x_Me, x_meK, x_Me0, ty_ss, ty_lo, ty_ll, ty_dd, ty_lr, ap_o, up_l, pop_o, pop_l, asT_o, tru_l, tru_d, ext_o, lsts_r, lsts_t, x_chain, in_ssF, in_ssT, in_t, in_r, in_o, inK_sF, inK_sT, flat_s, flat_i, List.all_cons, List.all_nil, Bool.and_true, Bool.true_and, rev_t, rev_r, sum_r, maxL_r, minL_r, any_r, all_r, inc_ii, x_aug, x_lc, x_lc2, lcEnd_f, lcEnd_t, x_yes, x_Sl, x_oN, x_oS, asI_i, sl_t, sl_r, cut1, js_nil, js_cons, add_or, x_small, hb, div_ii dm, mod_ii nz, e3]
    rfl
theorem any_spec {cells : List Int} {c : Nat} {T S : Store} (h : Tape cells c T S) (hc : c < 2 ^ 60) : ∃ r S', m__law_any [.obj 0] S = .ok (.int r) S' ∧ Tape cells (c + 1) T S' := by
  obtain ⟨r, S', g1, g2, -, -⟩ := draw_spec h hc (m := 2000001) (by decide)
  obtain ⟨p, b, s, e, hp0, hp1, hb0, hs0, hs1⟩ := h.ex
  have dr : ∀ c : Bool, c = false → True := fun _ _ => trivial
  by_cases hb : b = 0 ∧ p < cells.length
  · obtain ⟨hb, hp⟩ := hb
    obtain ⟨z, hz, ez⟩ := at_int hp0 hp
    subst hb e
    refine ⟨z, _, ?_, ⟨p + 1, 0, s, rfl, by omega, by omega, by omega, hs0, hs1⟩⟩
    simp only [m__law_any, tapeO, x_bnd, k_ok, k_exc, k_stuck, x_giv, x_fail, selM_t, selM_f, selS_t, selS_f, sK_ok, sK_exc, sK_stuck, x_seq, seq_nx, seq_bk, seq_ct, seq_rt, seq_exc, seq_stuck, x_ret, x_retN, x_exp, x_set, x_nil, x_brk, x_cnt, x_tgt, tK_ok, tK_stuck, x_asgK, x_asg, ifK_t, ifK_f, x_if, x_fgK, fK_bk, fK_rt, fK_exc, for_src, x_fpK, fpK_nx, fpK_ct, srcK_nil, srcK_rng, x_for, x_def, defK_rt, defK_nx, defK_exc, slot_some, x_slot, x_c, x_Nil, x_consK, x_cons, x_F, x_m2K, x_m2, x_m1, x_B, x_T, asB_bl, asT_bl, asT_int, asT_non, asT_tup, asT_rol, asT_frz, x_And, x_Or, andK_t, andK_f, orK_t, orK_f, x_Not, x_AndV, x_OrV, x_andVK, x_orVK, x_NotV, x_IfE, ifEK_t, ifEK_f, x_Tup, x_Lst, x_mkF, x_mkT, x_Call, add_ii, sub_ii, neg_i, cmp_ii, eq_ii, eq_bb, eq_ss, ne_ii, ne_ss, is_n, isnot_n, non_n, non_i, non_b, non_s, non_t, non_r, non_o, ix_t, ix_r, ix_f, lst_s, ix_oo, len_oo, srcL_oo, set_oo, setO_l, opt_s, len_t, len_r, len_f, abs_i, int_i, int_b, max_ii, min_ii, gcd_ii, list_f, list_r, list_t, tuple_r, tuple_t, x_It, x_Nm, x_Tp, x_gN, x_gC, x_iE, x_iF, srcL_f, srcL_r, srcT_t, srcS_s, x_Isi, isi_tt, isi_ti, isi_tn, isi_tb, isi_ts, isi_bt, isi_bi, isi_bn, isi_bb, isi_bs, isi_st, isi_si, isi_sn, isi_sb, isi_ss, isi_it, isi_ii, isi_in, isi_ib, isi_is, at0, at1, at2, at3, ix0, ix1, ix2, ix3, whC_t, whC_f, whK_nx, whK_ct, whK_bk, whK_rt, List.map_cons, List.map_nil, List.length_cons, List.length_nil, List.replicate_succ, List.replicate_zero, List.set_cons_zero, List.set_cons_succ, List.cons_append, List.nil_append, List.append_nil, Nat.reduceAdd, Nat.reduceSub, Nat.sub_zero, Nat.sub_self, Nat.zero_add, List.getElem?_cons_zero, List.getElem?_cons_succ, decide_true, decide_false, Bool.not_true, Bool.not_false, List.isEmpty_cons, List.isEmpty_nil, Nat.reduceLeDiff, Nat.reduceSucc, x_Me, x_meK, x_Me0, ty_ss, ty_lo, ty_ll, ty_dd, ty_lr, ap_o, up_l, pop_o, pop_l, asT_o, tru_l, tru_d, ext_o, lsts_r, lsts_t, x_chain, in_ssF, in_ssT, in_t, in_r, in_o, inK_sF, inK_sT, flat_s, flat_i, List.all_cons, List.all_nil, Bool.and_true, Bool.true_and, rev_t, rev_r, sum_r, maxL_r, minL_r, any_r, all_r, inc_ii, x_aug, x_lc, x_lc2, lcEnd_f, lcEnd_t, x_yes, x_Sl, x_oN, x_oS, asI_i, sl_t, sl_r, cut1, js_nil, js_cons, add_or, x_small, len_map, hp, show p + 1 - 1 = p by omega, ez]
  · refine ⟨r - 1000000, S', ?_, g2⟩
    subst e
    unfold tapeO at g1 ⊢
    by_cases hb0 : b = 0
    · have hp : ¬ p < cells.length := fun z => hb ⟨hb0, z⟩
      subst hb0
      simp only [m__law_any, x_bnd, k_ok, k_exc, k_stuck, x_giv, x_fail, selM_t, selM_f, selS_t, selS_f, sK_ok, sK_exc, sK_stuck, x_seq, seq_nx, seq_bk, seq_ct, seq_rt, seq_exc, seq_stuck, x_ret, x_retN, x_exp, x_set, x_nil, x_brk, x_cnt, x_tgt, tK_ok, tK_stuck, x_asgK, x_asg, ifK_t, ifK_f, x_if, x_fgK, fK_bk, fK_rt, fK_exc, for_src, x_fpK, fpK_nx, fpK_ct, srcK_nil, srcK_rng, x_for, x_def, defK_rt, defK_nx, defK_exc, slot_some, x_slot, x_c, x_Nil, x_consK, x_cons, x_F, x_m2K, x_m2, x_m1, x_B, x_T, asB_bl, asT_bl, asT_int, asT_non, asT_tup, asT_rol, asT_frz, x_And, x_Or, andK_t, andK_f, orK_t, orK_f, x_Not, x_AndV, x_OrV, x_andVK, x_orVK, x_NotV, x_IfE, ifEK_t, ifEK_f, x_Tup, x_Lst, x_mkF, x_mkT, x_Call, add_ii, sub_ii, neg_i, cmp_ii, eq_ii, eq_bb, eq_ss, ne_ii, ne_ss, is_n, isnot_n, non_n, non_i, non_b, non_s, non_t, non_r, non_o, ix_t, ix_r, ix_f, lst_s, ix_oo, len_oo, srcL_oo, set_oo, setO_l, opt_s, len_t, len_r, len_f, abs_i, int_i, int_b, max_ii, min_ii, gcd_ii, list_f, list_r, list_t, tuple_r, tuple_t, x_It, x_Nm, x_Tp, x_gN, x_gC, x_iE, x_iF, srcL_f, srcL_r, srcT_t, srcS_s, x_Isi, isi_tt, isi_ti, isi_tn, isi_tb, isi_ts, isi_bt, isi_bi, isi_bn, isi_bb, isi_bs, isi_st, isi_si, isi_sn, isi_sb, isi_ss, isi_it, isi_ii, isi_in, isi_ib, isi_is, at0, at1, at2, at3, ix0, ix1, ix2, ix3, whC_t, whC_f, whK_nx, whK_ct, whK_bk, whK_rt, List.map_cons, List.map_nil, List.length_cons, List.length_nil, List.replicate_succ, List.replicate_zero, List.set_cons_zero, List.set_cons_succ, List.cons_append, List.nil_append, List.append_nil, Nat.reduceAdd, Nat.reduceSub, Nat.sub_zero, Nat.sub_self, Nat.zero_add, List.getElem?_cons_zero, List.getElem?_cons_succ, decide_true, decide_false, Bool.not_true, Bool.not_false, List.isEmpty_cons, List.isEmpty_nil, Nat.reduceLeDiff, Nat.reduceSucc, x_Me, x_meK, x_Me0, ty_ss, ty_lo, ty_ll, ty_dd, ty_lr, ap_o, up_l, pop_o, pop_l, asT_o, tru_l, tru_d, ext_o, lsts_r, lsts_t, x_chain, in_ssF, in_ssT, in_t, in_r, in_o, inK_sF, inK_sT, flat_s, flat_i, List.all_cons, List.all_nil, Bool.and_true, Bool.true_and, rev_t, rev_r, sum_r, maxL_r, minL_r, any_r, all_r, inc_ii, x_aug, x_lc, x_lc2, lcEnd_f, lcEnd_t, x_yes, x_Sl, x_oN, x_oS, asI_i, sl_t, sl_r, cut1, js_nil, js_cons, add_or, x_small, len_map, hp, x_need, g1]
    · simp only [m__law_any, x_bnd, k_ok, k_exc, k_stuck, x_giv, x_fail, selM_t, selM_f, selS_t, selS_f, sK_ok, sK_exc, sK_stuck, x_seq, seq_nx, seq_bk, seq_ct, seq_rt, seq_exc, seq_stuck, x_ret, x_retN, x_exp, x_set, x_nil, x_brk, x_cnt, x_tgt, tK_ok, tK_stuck, x_asgK, x_asg, ifK_t, ifK_f, x_if, x_fgK, fK_bk, fK_rt, fK_exc, for_src, x_fpK, fpK_nx, fpK_ct, srcK_nil, srcK_rng, x_for, x_def, defK_rt, defK_nx, defK_exc, slot_some, x_slot, x_c, x_Nil, x_consK, x_cons, x_F, x_m2K, x_m2, x_m1, x_B, x_T, asB_bl, asT_bl, asT_int, asT_non, asT_tup, asT_rol, asT_frz, x_And, x_Or, andK_t, andK_f, orK_t, orK_f, x_Not, x_AndV, x_OrV, x_andVK, x_orVK, x_NotV, x_IfE, ifEK_t, ifEK_f, x_Tup, x_Lst, x_mkF, x_mkT, x_Call, add_ii, sub_ii, neg_i, cmp_ii, eq_ii, eq_bb, eq_ss, ne_ii, ne_ss, is_n, isnot_n, non_n, non_i, non_b, non_s, non_t, non_r, non_o, ix_t, ix_r, ix_f, lst_s, ix_oo, len_oo, srcL_oo, set_oo, setO_l, opt_s, len_t, len_r, len_f, abs_i, int_i, int_b, max_ii, min_ii, gcd_ii, list_f, list_r, list_t, tuple_r, tuple_t, x_It, x_Nm, x_Tp, x_gN, x_gC, x_iE, x_iF, srcL_f, srcL_r, srcT_t, srcS_s, x_Isi, isi_tt, isi_ti, isi_tn, isi_tb, isi_ts, isi_bt, isi_bi, isi_bn, isi_bb, isi_bs, isi_st, isi_si, isi_sn, isi_sb, isi_ss, isi_it, isi_ii, isi_in, isi_ib, isi_is, at0, at1, at2, at3, ix0, ix1, ix2, ix3, whC_t, whC_f, whK_nx, whK_ct, whK_bk, whK_rt, List.map_cons, List.map_nil, List.length_cons, List.length_nil, List.replicate_succ, List.replicate_zero, List.set_cons_zero, List.set_cons_succ, List.cons_append, List.nil_append, List.append_nil, Nat.reduceAdd, Nat.reduceSub, Nat.sub_zero, Nat.sub_self, Nat.zero_add, List.getElem?_cons_zero, List.getElem?_cons_succ, decide_true, decide_false, Bool.not_true, Bool.not_false, List.isEmpty_cons, List.isEmpty_nil, Nat.reduceLeDiff, Nat.reduceSucc, x_Me, x_meK, x_Me0, ty_ss, ty_lo, ty_ll, ty_dd, ty_lr, ap_o, up_l, pop_o, pop_l, asT_o, tru_l, tru_d, ext_o, lsts_r, lsts_t, x_chain, in_ssF, in_ssT, in_t, in_r, in_o, inK_sF, inK_sT, flat_s, flat_i, List.all_cons, List.all_nil, Bool.and_true, Bool.true_and, rev_t, rev_r, sum_r, maxL_r, minL_r, any_r, all_r, inc_ii, x_aug, x_lc, x_lc2, lcEnd_f, lcEnd_t, x_yes, x_Sl, x_oN, x_oS, asI_i, sl_t, sl_r, cut1, js_nil, js_cons, add_or, x_small, len_map, hb0, x_need, g1]
theorem great_spec {cells : List Int} {c : Nat} {T S : Store} (h : Tape cells c T S) (hc : c < 2 ^ 60) {m : Int} (hm : 0 < m) : ∃ r S', m__law_great [.obj 0, .int m] S = .ok (.int r) S' ∧ Tape cells (c + 1) T S' ∧ -m < r ∧ r < m := by
  obtain ⟨r, S', g1, g2⟩ := any_spec h hc
  have nz : m ≠ 0 := by omega
  have e : ∀ x : Int, x.fmod m = x % m := fun x => Int.fmod_eq_emod_of_nonneg x (by omega)
  have q1 := fun x : Int => Int.emod_nonneg x nz
  have q2 := fun x : Int => Int.emod_lt_of_pos x hm
  by_cases hr : r < 0
  · refine ⟨-((-r) % m), S', ?_, g2, by have := q2 (-r); omega, by have := q1 (-r); omega⟩
    simp only [m__law_great, x_bnd, k_ok, k_exc, k_stuck, x_giv, x_fail, selM_t, selM_f, selS_t, selS_f, sK_ok, sK_exc, sK_stuck, x_seq, seq_nx, seq_bk, seq_ct, seq_rt, seq_exc, seq_stuck, x_ret, x_retN, x_exp, x_set, x_nil, x_brk, x_cnt, x_tgt, tK_ok, tK_stuck, x_asgK, x_asg, ifK_t, ifK_f, x_if, x_fgK, fK_bk, fK_rt, fK_exc, for_src, x_fpK, fpK_nx, fpK_ct, srcK_nil, srcK_rng, x_for, x_def, defK_rt, defK_nx, defK_exc, slot_some, x_slot, x_c, x_Nil, x_consK, x_cons, x_F, x_m2K, x_m2, x_m1, x_B, x_T, asB_bl, asT_bl, asT_int, asT_non, asT_tup, asT_rol, asT_frz, x_And, x_Or, andK_t, andK_f, orK_t, orK_f, x_Not, x_AndV, x_OrV, x_andVK, x_orVK, x_NotV, x_IfE, ifEK_t, ifEK_f, x_Tup, x_Lst, x_mkF, x_mkT, x_Call, add_ii, sub_ii, neg_i, cmp_ii, eq_ii, eq_bb, eq_ss, ne_ii, ne_ss, is_n, isnot_n, non_n, non_i, non_b, non_s, non_t, non_r, non_o, ix_t, ix_r, ix_f, lst_s, ix_oo, len_oo, srcL_oo, set_oo, setO_l, opt_s, len_t, len_r, len_f, abs_i, int_i, int_b, max_ii, min_ii, gcd_ii, list_f, list_r, list_t, tuple_r, tuple_t, x_It, x_Nm, x_Tp, x_gN, x_gC, x_iE, x_iF, srcL_f, srcL_r, srcT_t, srcS_s, x_Isi, isi_tt, isi_ti, isi_tn, isi_tb, isi_ts, isi_bt, isi_bi, isi_bn, isi_bb, isi_bs, isi_st, isi_si, isi_sn, isi_sb, isi_ss, isi_it, isi_ii, isi_in, isi_ib, isi_is, at0, at1, at2, at3, ix0, ix1, ix2, ix3, whC_t, whC_f, whK_nx, whK_ct, whK_bk, whK_rt, List.map_cons, List.map_nil, List.length_cons, List.length_nil, List.replicate_succ, List.replicate_zero, List.set_cons_zero, List.set_cons_succ, List.cons_append, List.nil_append, List.append_nil, Nat.reduceAdd, Nat.reduceSub, Nat.sub_zero, Nat.sub_self, Nat.zero_add, List.getElem?_cons_zero, List.getElem?_cons_succ, decide_true, decide_false, Bool.not_true, Bool.not_false, List.isEmpty_cons, List.isEmpty_nil, Nat.reduceLeDiff, Nat.reduceSucc, x_Me, x_meK, x_Me0, ty_ss, ty_lo, ty_ll, ty_dd, ty_lr, ap_o, up_l, pop_o, pop_l, asT_o, tru_l, tru_d, ext_o, lsts_r, lsts_t, x_chain, in_ssF, in_ssT, in_t, in_r, in_o, inK_sF, inK_sT, flat_s, flat_i, List.all_cons, List.all_nil, Bool.and_true, Bool.true_and, rev_t, rev_r, sum_r, maxL_r, minL_r, any_r, all_r, inc_ii, x_aug, x_lc, x_lc2, lcEnd_f, lcEnd_t, x_yes, x_Sl, x_oN, x_oS, asI_i, sl_t, sl_r, cut1, js_nil, js_cons, add_or, x_small, x_need, g1, hr, mod_ii nz, e]
  · refine ⟨r % m, S', ?_, g2, by have := q1 r; omega, q2 r⟩
    simp only [m__law_great, x_bnd, k_ok, k_exc, k_stuck, x_giv, x_fail, selM_t, selM_f, selS_t, selS_f, sK_ok, sK_exc, sK_stuck, x_seq, seq_nx, seq_bk, seq_ct, seq_rt, seq_exc, seq_stuck, x_ret, x_retN, x_exp, x_set, x_nil, x_brk, x_cnt, x_tgt, tK_ok, tK_stuck, x_asgK, x_asg, ifK_t, ifK_f, x_if, x_fgK, fK_bk, fK_rt, fK_exc, for_src, x_fpK, fpK_nx, fpK_ct, srcK_nil, srcK_rng, x_for, x_def, defK_rt, defK_nx, defK_exc, slot_some, x_slot, x_c, x_Nil, x_consK, x_cons, x_F, x_m2K, x_m2, x_m1, x_B, x_T, asB_bl, asT_bl, asT_int, asT_non, asT_tup, asT_rol, asT_frz, x_And, x_Or, andK_t, andK_f, orK_t, orK_f, x_Not, x_AndV, x_OrV, x_andVK, x_orVK, x_NotV, x_IfE, ifEK_t, ifEK_f, x_Tup, x_Lst, x_mkF, x_mkT, x_Call, add_ii, sub_ii, neg_i, cmp_ii, eq_ii, eq_bb, eq_ss, ne_ii, ne_ss, is_n, isnot_n, non_n, non_i, non_b, non_s, non_t, non_r, non_o, ix_t, ix_r, ix_f, lst_s, ix_oo, len_oo, srcL_oo, set_oo, setO_l, opt_s, len_t, len_r, len_f, abs_i, int_i, int_b, max_ii, min_ii, gcd_ii, list_f, list_r, list_t, tuple_r, tuple_t, x_It, x_Nm, x_Tp, x_gN, x_gC, x_iE, x_iF, srcL_f, srcL_r, srcT_t, srcS_s, x_Isi, isi_tt, isi_ti, isi_tn, isi_tb, isi_ts, isi_bt, isi_bi, isi_bn, isi_bb, isi_bs, isi_st, isi_si, isi_sn, isi_sb, isi_ss, isi_it, isi_ii, isi_in, isi_ib, isi_is, at0, at1, at2, at3, ix0, ix1, ix2, ix3, whC_t, whC_f, whK_nx, whK_ct, whK_bk, whK_rt, List.map_cons, List.map_nil, List.length_cons, List.length_nil, List.replicate_succ, List.replicate_zero, List.set_cons_zero, List.set_cons_succ, List.cons_append, List.nil_append, List.append_nil, Nat.reduceAdd, Nat.reduceSub, Nat.sub_zero, Nat.sub_self, Nat.zero_add, List.getElem?_cons_zero, List.getElem?_cons_succ, decide_true, decide_false, Bool.not_true, Bool.not_false, List.isEmpty_cons, List.isEmpty_nil, Nat.reduceLeDiff, Nat.reduceSucc, x_Me, x_meK, x_Me0, ty_ss, ty_lo, ty_ll, ty_dd, ty_lr, ap_o, up_l, pop_o, pop_l, asT_o, tru_l, tru_d, ext_o, lsts_r, lsts_t, x_chain, in_ssF, in_ssT, in_t, in_r, in_o, inK_sF, inK_sT, flat_s, flat_i, List.all_cons, List.all_nil, Bool.and_true, Bool.true_and, rev_t, rev_r, sum_r, maxL_r, minL_r, any_r, all_r, inc_ii, x_aug, x_lc, x_lc2, lcEnd_f, lcEnd_t, x_yes, x_Sl, x_oN, x_oS, asI_i, sl_t, sl_r, cut1, js_nil, js_cons, add_or, x_small, x_need, g1, hr, mod_ii nz, e]
/-! ### greatest common divisors, fractions -/
theorem gcd_loop (t : MT) (bd : MS) (ht : t = mB (m2 (dCmp fun i j => decide (j < i)) (mSlot 1) (mC (.int 0))))
    (hbd : bd = L__law_gcd_1) (S : Store) :
    ∀ (n b a : Nat) (o : Option D), b < n → ∃ o', whileN t bd n [some (.int a), some (.int b), o] S = .nx [some (.int (Nat.gcd a b : Nat)), some (.int 0), o'] S
  | 0, b, a, o, h => by omega
  | n + 1, b, a, o, h => by
    by_cases hb : b = 0
    · subst hb
      refine ⟨o, ?_⟩
      have z : ¬ (0 : Int) < ((0 : Nat) : Int) := by omega
      subst ht hbd
      simp only [L__law_gcd_1, x_whN, x_bnd, k_ok, k_exc, k_stuck, x_giv, x_fail, selM_t, selM_f, selS_t, selS_f, sK_ok, sK_exc, sK_stuck, x_seq, seq_nx, seq_bk, seq_ct, seq_rt, seq_exc, seq_stuck, x_ret, x_retN, x_exp, x_set, x_nil, x_brk, x_cnt, x_tgt, tK_ok, tK_stuck, x_asgK, x_asg, ifK_t, ifK_f, x_if, x_fgK, fK_bk, fK_rt, fK_exc, for_src, x_fpK, fpK_nx, fpK_ct, srcK_nil, srcK_rng, x_for, x_def, defK_rt, defK_nx, defK_exc, slot_some, x_slot, x_c, x_Nil, x_consK, x_cons, x_F, x_m2K, x_m2, x_m1, x_B, x_T, asB_bl, asT_bl, asT_int, asT_non, asT_tup, asT_rol, asT_frz, x_And, x_Or, andK_t, andK_f, orK_t, orK_f, x_Not, x_AndV, x_OrV, x_andVK, x_orVK, x_NotV, x_IfE, ifEK_t, ifEK_f, x_Tup, x_Lst, x_mkF, x_mkT, x_Call, add_ii, sub_ii, neg_i, cmp_ii, eq_ii, eq_bb, eq_ss, ne_ii, ne_ss, is_n, isnot_n, non_n, non_i, non_b, non_s, non_t, non_r, non_o, ix_t, ix_r, ix_f, lst_s, ix_oo, len_oo, srcL_oo, set_oo, setO_l, opt_s, len_t, len_r, len_f, abs_i, int_i, int_b, max_ii, min_ii, gcd_ii, list_f, list_r, list_t, tuple_r, tuple_t, x_It, x_Nm, x_Tp, x_gN, x_gC, x_iE, x_iF, srcL_f, srcL_r, srcT_t, srcS_s, x_Isi, isi_tt, isi_ti, isi_tn, isi_tb, isi_ts, isi_bt, isi_bi, isi_bn, isi_bb, isi_bs, isi_st, isi_si, isi_sn, isi_sb, isi_ss, isi_it, isi_ii, isi_in, isi_ib, isi_is, at0, at1, at2, at3, ix0, ix1, ix2, ix3, whC_t, whC_f, whK_nx, whK_ct, whK_bk, whK_rt, List.map_cons, List.map_nil, List.length_cons, List.length_nil, List.replicate_succ, List.replicate_zero, List.set_cons_zero, List.set_cons_succ, List.cons_append, List.nil_append, List.append_nil, Nat.reduceAdd, Nat.reduceSub, Nat.sub_zero, Nat.sub_self, Nat.zero_add, List.getElem?_cons_zero, List.getElem?_cons_succ, decide_true, decide_false, Bool.not_true, Bool.not_false, List.isEmpty_cons, List.isEmpty_nil, Nat.reduceLeDiff, Nat.reduceSucc, x_Me, x_meK, x_Me0, ty_ss, ty_lo, ty_ll, ty_dd, ty_lr, ap_o, up_l, pop_o, pop_l, asT_o, tru_l, tru_d, ext_o, lsts_r, lsts_t, x_chain, in_ssF, in_ssT, in_t, in_r, in_o, inK_sF, inK_sT, flat_s, flat_i, List.all_cons, List.all_nil, Bool.and_true, Bool.true_and, rev_t, rev_r, sum_r, maxL_r, minL_r, any_r, all_r, inc_ii, x_aug, x_lc, x_lc2, lcEnd_f, lcEnd_t, x_yes, x_Sl, x_oN, x_oS, asI_i, sl_t, sl_r, cut1, js_nil, js_cons, add_or, z, Nat.gcd_zero_right]
      rfl
    · obtain ⟨o', e⟩ := gcd_loop t bd ht hbd S n (a % b) b (some (.int ((a % b : Nat) : Int))) (Nat.lt_of_lt_of_le (Nat.mod_lt _ (by omega)) (by omega))
      refine ⟨o', ?_⟩
      have z : (0 : Int) < (b : Int) := by omega
      have nz : (b : Int) ≠ 0 := by omega
      have em : (a : Int).fmod (b : Int) = ((a % b : Nat) : Int) := by
        rw [Int.fmod_eq_emod_of_nonneg _ (by omega)]
        exact (Int.natCast_emod a b).symm
      rw [show Nat.gcd a b = Nat.gcd b (a % b) by rw [Nat.gcd_comm a b, Nat.gcd_rec b a, Nat.gcd_comm]]
      rw [← e]
      subst ht hbd
      simp only [L__law_gcd_1, x_whN, x_bnd, k_ok, k_exc, k_stuck, x_giv, x_fail, selM_t, selM_f, selS_t, selS_f, sK_ok, sK_exc, sK_stuck, x_seq, seq_nx, seq_bk, seq_ct, seq_rt, seq_exc, seq_stuck, x_ret, x_retN, x_exp, x_set, x_nil, x_brk, x_cnt, x_tgt, tK_ok, tK_stuck, x_asgK, x_asg, ifK_t, ifK_f, x_if, x_fgK, fK_bk, fK_rt, fK_exc, for_src, x_fpK, fpK_nx, fpK_ct, srcK_nil, srcK_rng, x_for, x_def, defK_rt, defK_nx, defK_exc, slot_some, x_slot, x_c, x_Nil, x_consK, x_cons, x_F, x_m2K, x_m2, x_m1, x_B, x_T, asB_bl, asT_bl, asT_int, asT_non, asT_tup, asT_rol, asT_frz, x_And, x_Or, andK_t, andK_f, orK_t, orK_f, x_Not, x_AndV, x_OrV, x_andVK, x_orVK, x_NotV, x_IfE, ifEK_t, ifEK_f, x_Tup, x_Lst, x_mkF, x_mkT, x_Call, add_ii, sub_ii, neg_i, cmp_ii, eq_ii, eq_bb, eq_ss, ne_ii, ne_ss, is_n, isnot_n, non_n, non_i, non_b, non_s, non_t, non_r, non_o, ix_t, ix_r, ix_f, lst_s, ix_oo, len_oo, srcL_oo, set_oo, setO_l, opt_s, len_t, len_r, len_f, abs_i, int_i, int_b, max_ii, min_ii, gcd_ii, list_f, list_r, list_t, tuple_r, tuple_t, x_It, x_Nm, x_Tp, x_gN, x_gC, x_iE, x_iF, srcL_f, srcL_r, srcT_t, srcS_s, x_Isi, isi_tt, isi_ti, isi_tn, isi_tb, isi_ts, isi_bt, isi_bi, isi_bn, isi_bb, isi_bs, isi_st, isi_si, isi_sn, isi_sb, isi_ss, isi_it, isi_ii, isi_in, isi_ib, isi_is, at0, at1, at2, at3, ix0, ix1, ix2, ix3, whC_t, whC_f, whK_nx, whK_ct, whK_bk, whK_rt, List.map_cons, List.map_nil, List.length_cons, List.length_nil, List.replicate_succ, List.replicate_zero, List.set_cons_zero, List.set_cons_succ, List.cons_append, List.nil_append, List.append_nil, Nat.reduceAdd, Nat.reduceSub, Nat.sub_zero, Nat.sub_self, Nat.zero_add, List.getElem?_cons_zero, List.getElem?_cons_succ, decide_true, decide_false, Bool.not_true, Bool.not_false, List.isEmpty_cons, List.isEmpty_nil, Nat.reduceLeDiff, Nat.reduceSucc, x_Me, x_meK, x_Me0, ty_ss, ty_lo, ty_ll, ty_dd, ty_lr, ap_o, up_l, pop_o, pop_l, asT_o, tru_l, tru_d, ext_o, lsts_r, lsts_t, x_chain, in_ssF, in_ssT, in_t, in_r, in_o, inK_sF, inK_sT, flat_s, flat_i, List.all_cons, List.all_nil, Bool.and_true, Bool.true_and, rev_t, rev_r, sum_r, maxL_r, minL_r, any_r, all_r, inc_ii, x_aug, x_lc, x_lc2, lcEnd_f, lcEnd_t, x_yes, x_Sl, x_oN, x_oS, asI_i, sl_t, sl_r, cut1, js_nil, js_cons, add_or, z, mod_ii nz, em]
theorem abs_nat (a : Int) : (if a < 0 then -a else a) = (a.natAbs : Int) := by split <;> omega
theorem gcd_spec (a b : Int) (S : Store) : m__law_gcd [.int a, .int b] S = .ok (.int (Nat.gcd a.natAbs b.natAbs : Nat)) S := by
  obtain ⟨o', e⟩ := gcd_loop _ L__law_gcd_1 rfl rfl S (b.natAbs + 1) b.natAbs a.natAbs none (Nat.lt_succ_self _)
  have w := while_of e (by simp)
  simp only [m__law_gcd, x_bnd, k_ok, k_exc, k_stuck, x_giv, x_fail, selM_t, selM_f, selS_t, selS_f, sK_ok, sK_exc, sK_stuck, x_seq, seq_nx, seq_bk, seq_ct, seq_rt, seq_exc, seq_stuck, x_ret, x_retN, x_exp, x_set, x_nil, x_brk, x_cnt, x_tgt, tK_ok, tK_stuck, x_asgK, x_asg, ifK_t, ifK_f, x_if, x_fgK, fK_bk, fK_rt, fK_exc, for_src, x_fpK, fpK_nx, fpK_ct, srcK_nil, srcK_rng, x_for, x_def, defK_rt, defK_nx, defK_exc, slot_some, x_slot, x_c, x_Nil, x_consK, x_cons, x_F, x_m2K, x_m2, x_m1, x_B, x_T, asB_bl, asT_bl, asT_int, asT_non, asT_tup, asT_rol, asT_frz, x_And, x_Or, andK_t, andK_f, orK_t, orK_f, x_Not, x_AndV, x_OrV, x_andVK, x_orVK, x_NotV, x_IfE, ifEK_t, ifEK_f, x_Tup, x_Lst, x_mkF, x_mkT, x_Call, add_ii, sub_ii, neg_i, cmp_ii, eq_ii, eq_bb, eq_ss, ne_ii, ne_ss, is_n, isnot_n, non_n, non_i, non_b, non_s, non_t, non_r, non_o, ix_t, ix_r, ix_f, lst_s, ix_oo, len_oo, srcL_oo, set_oo, setO_l, opt_s, len_t, len_r, len_f, abs_i, int_i, int_b, max_ii, min_ii, gcd_ii, list_f, list_r, list_t, tuple_r, tuple_t, x_It, x_Nm, x_Tp, x_gN, x_gC, x_iE, x_iF, srcL_f, srcL_r, srcT_t, srcS_s, x_Isi, isi_tt, isi_ti, isi_tn, isi_tb, isi_ts, isi_bt, isi_bi, isi_bn, isi_bb, isi_bs, isi_st, isi_si, isi_sn, isi_sb, isi_ss, isi_it, isi_ii, isi_in, isi_ib, isi_is, at0, at1, at2, at3, ix0, ix1, ix2, ix3, whC_t, whC_f, whK_nx, whK_ct, whK_bk, whK_rt, List.map_cons, List.map_nil, List.length_cons, List.length_nil, List.replicate_succ, List.replicate_zero, List.set_cons_zero, List.set_cons_succ, List.cons_append, List.nil_append, List.append_nil, Nat.reduceAdd, Nat.reduceSub, Nat.sub_zero, Nat.sub_self, Nat.zero_add, List.getElem?_cons_zero, List.getElem?_cons_succ, decide_true, decide_false, Bool.not_true, Bool.not_false, List.isEmpty_cons, List.isEmpty_nil, Nat.reduceLeDiff, Nat.reduceSucc, x_Me, x_meK, x_Me0, ty_ss, ty_lo, ty_ll, ty_dd, ty_lr, ap_o, up_l, pop_o, pop_l, asT_o, tru_l, tru_d, ext_o, lsts_r, lsts_t, x_chain, in_ssF, in_ssT, in_t, in_r, in_o, inK_sF, inK_sT, flat_s, flat_i, List.all_cons, List.all_nil, Bool.and_true, Bool.true_and, rev_t, rev_r, sum_r, maxL_r, minL_r, any_r, all_r, inc_ii, x_aug, x_lc, x_lc2, lcEnd_f, lcEnd_t, x_yes, x_Sl, x_oN, x_oS, asI_i, sl_t, sl_r, cut1, js_nil, js_cons, add_or, x_small, abs_nat, w]
/-- the fraction of n by d, as a pair -/
def sgn (d : Int) : Int := if d < 0 then -1 else 1
def frG (n d : Int) : Int := sgn d * (Nat.gcd n.natAbs d.natAbs : Nat)
def fr (n d : Int) : Int × Int := (n.fdiv (frG n d), d.fdiv (frG n d))
def pr (p : Int × Int) : D := .tup [.int p.1, .int p.2]
theorem gcd_pos {n d : Int} (h : d ≠ 0) : 0 < Nat.gcd n.natAbs d.natAbs := Nat.gcd_pos_of_pos_right _ (by omega)
theorem frG_ne {n d : Int} (h : d ≠ 0) : frG n d ≠ 0 := by
  have g := gcd_pos (n := n) h
  unfold frG sgn
  split <;> omega
theorem frG_eq {n d : Int} : frG n d = if d < 0 then -((Nat.gcd n.natAbs d.natAbs : Nat) : Int) else ((Nat.gcd n.natAbs d.natAbs : Nat) : Int) := by
  unfold frG sgn
  split <;> omega
theorem fr_parts {n d : Int} (h : d ≠ 0) : n = frG n d * (fr n d).1 ∧ d = frG n d * (fr n d).2 := by
  have h1 : (Nat.gcd n.natAbs d.natAbs : Int) ∣ n := Int.ofNat_dvd_left.mpr (Nat.gcd_dvd_left _ _)
  have h2 : (Nat.gcd n.natAbs d.natAbs : Int) ∣ d := Int.ofNat_dvd_left.mpr (Nat.gcd_dvd_right _ _)
  have g1 : frG n d ∣ n := by
    unfold frG sgn
    split
    · rw [Int.neg_one_mul]; exact Int.neg_dvd.mpr h1
    · rw [Int.one_mul]; exact h1
  have g2 : frG n d ∣ d := by
    unfold frG sgn
    split
    · rw [Int.neg_one_mul]; exact Int.neg_dvd.mpr h2
    · rw [Int.one_mul]; exact h2
  unfold fr
  exact ⟨(Int.mul_fdiv_cancel_of_dvd g1).symm, (Int.mul_fdiv_cancel_of_dvd g2).symm⟩
theorem fr_pos {n d : Int} (h : d ≠ 0) : 0 < (fr n d).2 := by
  have e := (fr_parts (n := n) h).2
  have g := gcd_pos (n := n) h
  have hz : (fr n d).2 ≠ 0 := fun z => h (by rw [e, z, Int.mul_zero])
  by_cases hd : d < 0
  · have hg : frG n d < 0 := by rw [frG_eq, if_pos hd]; omega
    apply Decidable.byContradiction
    intro c
    have c2 : (fr n d).2 ≤ 0 := by omega
    have := Int.mul_nonneg_of_nonpos_of_nonpos (Int.le_of_lt hg) c2
    omega
  · have hg : 0 < frG n d := by rw [frG_eq, if_neg hd]; omega
    apply Decidable.byContradiction
    intro c
    have c2 : (fr n d).2 ≤ 0 := by omega
    have := Int.mul_nonpos_of_nonneg_of_nonpos (Int.le_of_lt hg) c2
    omega
theorem fr_cross {n d : Int} (h : d ≠ 0) : (fr n d).1 * d = n * (fr n d).2 := by
  obtain ⟨e1, e2⟩ := fr_parts (n := n) h
  have : (fr n d).1 * (frG n d * (fr n d).2) = frG n d * (fr n d).1 * (fr n d).2 := by
    rw [← Int.mul_assoc, Int.mul_comm (fr n d).1]
  rw [← e1, ← e2] at this
  exact this
theorem fr_coprime {n d : Int} (h : d ≠ 0) : Nat.gcd (fr n d).1.natAbs (fr n d).2.natAbs = 1 := by
  obtain ⟨e1, e2⟩ := fr_parts (n := n) h
  have g := gcd_pos (n := n) h
  have a1 : n.natAbs = Nat.gcd n.natAbs d.natAbs * (fr n d).1.natAbs := by
    have z := congrArg Int.natAbs e1
    rw [Int.natAbs_mul, show (frG n d).natAbs = Nat.gcd n.natAbs d.natAbs by rw [frG_eq]; split <;> omega] at z
    exact z
  have a2 : d.natAbs = Nat.gcd n.natAbs d.natAbs * (fr n d).2.natAbs := by
    have z := congrArg Int.natAbs e2
    rw [Int.natAbs_mul, show (frG n d).natAbs = Nat.gcd n.natAbs d.natAbs by rw [frG_eq]; split <;> omega] at z
    exact z
  have q : Nat.gcd n.natAbs d.natAbs = Nat.gcd n.natAbs d.natAbs * Nat.gcd (fr n d).1.natAbs (fr n d).2.natAbs := by
    have z := Nat.gcd_mul_left (Nat.gcd n.natAbs d.natAbs) (fr n d).1.natAbs (fr n d).2.natAbs
    rw [← a1, ← a2] at z
    exact z
  have := Nat.eq_of_mul_eq_mul_left g (show Nat.gcd n.natAbs d.natAbs * Nat.gcd (fr n d).1.natAbs (fr n d).2.natAbs = Nat.gcd n.natAbs d.natAbs * 1 by rw [← q, Nat.mul_one])
  exact this
/-- lowest terms are alone -/
theorem lowest {a b c d : Int} (hb : 0 < b) (hd : 0 < d) (g1 : Nat.gcd a.natAbs b.natAbs = 1) (g2 : Nat.gcd c.natAbs d.natAbs = 1) (h : a * d = c * b) : a = c ∧ b = d := by
  have hn : a.natAbs * d.natAbs = c.natAbs * b.natAbs := by rw [← Int.natAbs_mul, ← Int.natAbs_mul, h]
  have h1 : b.natAbs ∣ d.natAbs := by
    have : b.natAbs ∣ a.natAbs * d.natAbs := by rw [hn]; exact Nat.dvd_mul_left _ _
    exact (Nat.Coprime.dvd_of_dvd_mul_left (Nat.Coprime.symm g1) this)
  have h2 : d.natAbs ∣ b.natAbs := by
    have : d.natAbs ∣ c.natAbs * b.natAbs := by rw [← hn]; exact Nat.dvd_mul_left _ _
    exact (Nat.Coprime.dvd_of_dvd_mul_left (Nat.Coprime.symm g2) this)
  have e := Nat.dvd_antisymm h1 h2
  have eb : b = d := by omega
  subst eb
  exact ⟨Int.eq_of_mul_eq_mul_right (by omega) h, rfl⟩
theorem fr_alone {n d a b : Int} (h : d ≠ 0) (hb : 0 < b) (g : Nat.gcd a.natAbs b.natAbs = 1) (e : a * d = n * b) : fr n d = (a, b) := by
  have c := fr_cross (n := n) h
  have p := fr_pos (n := n) h
  have q : a * (fr n d).2 = (fr n d).1 * b := by
    have : a * (fr n d).2 * d = (fr n d).1 * b * d := by
      calc a * (fr n d).2 * d = a * d * (fr n d).2 := by rw [Int.mul_assoc, Int.mul_comm (fr n d).2, ← Int.mul_assoc]
        _ = n * b * (fr n d).2 := by rw [e]
        _ = n * (fr n d).2 * b := by rw [Int.mul_assoc, Int.mul_comm b, ← Int.mul_assoc]
        _ = (fr n d).1 * d * b := by rw [c]
        _ = (fr n d).1 * b * d := by rw [Int.mul_assoc, Int.mul_comm d, ← Int.mul_assoc]
    exact Int.eq_of_mul_eq_mul_right h this
  obtain ⟨e1, e2⟩ := lowest hb p g (fr_coprime h) q
  exact Prod.ext e1.symm e2.symm
theorem fr_same {n d m e : Int} (h : d ≠ 0) (h' : e ≠ 0) (q : n * e = m * d) : fr n d = fr m e := by
  have c := fr_cross (n := m) h'
  refine fr_alone h (fr_pos h') (fr_coprime h') ?_
  have : (fr m e).1 * d * e = n * (fr m e).2 * e := by
    calc (fr m e).1 * d * e = (fr m e).1 * e * d := by rw [Int.mul_assoc, Int.mul_comm d, ← Int.mul_assoc]
      _ = m * (fr m e).2 * d := by rw [c]
      _ = m * d * (fr m e).2 := by rw [Int.mul_assoc, Int.mul_comm (fr m e).2, ← Int.mul_assoc]
      _ = n * e * (fr m e).2 := by rw [q]
      _ = n * (fr m e).2 * e := by rw [Int.mul_assoc, Int.mul_comm e, ← Int.mul_assoc]
  exact Int.eq_of_mul_eq_mul_right h' this
/-- how large numbers are -/
def bits (i : Int) (n : Nat) : Prop := i.natAbs < 2 ^ n
theorem bits.mono {i : Int} {n m : Nat} (h : bits i n) (k : n ≤ m) : bits i m := Nat.lt_of_lt_of_le h (Nat.pow_le_pow_right (by decide) k)
theorem bits.mul {i j : Int} {n m : Nat} (h : bits i n) (k : bits j m) : bits (i * j) (n + m) := wide_lt h k
theorem bits.neg {i : Int} {n : Nat} (h : bits i n) : bits (-i) n := by unfold bits at *; rw [Int.natAbs_neg]; exact h
theorem bits.add {i j : Int} {n : Nat} (h : bits i n) (k : bits j n) : bits (i + j) (n + 1) := by
  unfold bits at *
  have := Int.natAbs_add_le i j
  rw [Nat.pow_succ]
  omega
theorem bits.sub {i j : Int} {n : Nat} (h : bits i n) (k : bits j n) : bits (i - j) (n + 1) := by
  rw [Int.sub_eq_add_neg]
  exact h.add k.neg
theorem bits.of {i : Int} {n : Nat} (h1 : -(2 ^ n) < i) (h2 : i < 2 ^ n) : bits i n := natAbs_pow_lt h1 h2
theorem bits.cmul {i j : Int} {n m : Nat} (h : bits i n) (k : bits j m) (h0 : 0 < n) (h1 : 0 < m) (q : n + m ≤ 1000000) : CMulW i j := wide_mul h k h0 h1 q
theorem frG_bits {n d : Int} {k : Nat} (h : d ≠ 0) (b : bits d k) : bits (frG n d) k := by
  unfold bits at *
  have g := Nat.le_of_dvd (show 0 < d.natAbs by omega) (Nat.gcd_dvd_right n.natAbs d.natAbs)
  have e : (frG n d).natAbs = Nat.gcd n.natAbs d.natAbs := by rw [frG_eq]; split <;> omega
  omega
theorem frG_div {n d x : Int} {k : Nat} (h : d ≠ 0) (b : bits d k) (h0 : 0 < k) (h9 : k ≤ 9000) : CDivZ x (frG n d) := ⟨frG_ne h, Nat.lt_of_lt_of_le (PySem.Flt.log2_lt_of h0 (frG_bits h b)) h9⟩
theorem fr_bits1 {n d : Int} {k : Nat} (h : d ≠ 0) (b : bits n k) : bits (fr n d).1 k := by
  have e := (fr_parts (n := n) h).1
  have g := frG_ne (n := n) h
  unfold bits at *
  have : (fr n d).1.natAbs ≤ n.natAbs := by
    conv => rhs; rw [e, Int.natAbs_mul]
    exact Nat.le_mul_of_pos_left _ (by omega)
  omega
theorem fr_bits2 {n d : Int} {k : Nat} (h : d ≠ 0) (b : bits d k) : bits (fr n d).2 k := by
  have e := (fr_parts (n := n) h).2
  have g := frG_ne (n := n) h
  unfold bits at *
  have : (fr n d).2.natAbs ≤ d.natAbs := by
    conv => rhs; rw [e, Int.natAbs_mul]
    exact Nat.le_mul_of_pos_left _ (by omega)
  omega
theorem fraction_spec {n d : Int} {k : Nat} (h : d ≠ 0) (b : bits d k) (h0 : 0 < k) (h9 : k ≤ 9000) (S : Store) : m_fraction [.int n, .int d] S = .ok (pr (fr n d)) S := by
  have c1 := frG_div (n := n) (x := n) h b h0 h9
  have c2 := frG_div (n := n) (x := d) h b h0 h9
  have e := frG_eq (n := n) (d := d)
  unfold pr fr
  by_cases hd : d < 0
  · rw [if_pos hd] at e
    rw [e] at c1 c2 ⊢
    simp only [m_fraction, x_bnd, k_ok, k_exc, k_stuck, x_giv, x_fail, selM_t, selM_f, selS_t, selS_f, sK_ok, sK_exc, sK_stuck, x_seq, seq_nx, seq_bk, seq_ct, seq_rt, seq_exc, seq_stuck, x_ret, x_retN, x_exp, x_set, x_nil, x_brk, x_cnt, x_tgt, tK_ok, tK_stuck, x_asgK, x_asg, ifK_t, ifK_f, x_if, x_fgK, fK_bk, fK_rt, fK_exc, for_src, x_fpK, fpK_nx, fpK_ct, srcK_nil, srcK_rng, x_for, x_def, defK_rt, defK_nx, defK_exc, slot_some, x_slot, x_c, x_Nil, x_consK, x_cons, x_F, x_m2K, x_m2, x_m1, x_B, x_T, asB_bl, asT_bl, asT_int, asT_non, asT_tup, asT_rol, asT_frz, x_And, x_Or, andK_t, andK_f, orK_t, orK_f, x_Not, x_AndV, x_OrV, x_andVK, x_orVK, x_NotV, x_IfE, ifEK_t, ifEK_f, x_Tup, x_Lst, x_mkF, x_mkT, x_Call, add_ii, sub_ii, neg_i, cmp_ii, eq_ii, eq_bb, eq_ss, ne_ii, ne_ss, is_n, isnot_n, non_n, non_i, non_b, non_s, non_t, non_r, non_o, ix_t, ix_r, ix_f, lst_s, ix_oo, len_oo, srcL_oo, set_oo, setO_l, opt_s, len_t, len_r, len_f, abs_i, int_i, int_b, max_ii, min_ii, gcd_ii, list_f, list_r, list_t, tuple_r, tuple_t, x_It, x_Nm, x_Tp, x_gN, x_gC, x_iE, x_iF, srcL_f, srcL_r, srcT_t, srcS_s, x_Isi, isi_tt, isi_ti, isi_tn, isi_tb, isi_ts, isi_bt, isi_bi, isi_bn, isi_bb, isi_bs, isi_st, isi_si, isi_sn, isi_sb, isi_ss, isi_it, isi_ii, isi_in, isi_ib, isi_is, at0, at1, at2, at3, ix0, ix1, ix2, ix3, whC_t, whC_f, whK_nx, whK_ct, whK_bk, whK_rt, List.map_cons, List.map_nil, List.length_cons, List.length_nil, List.replicate_succ, List.replicate_zero, List.set_cons_zero, List.set_cons_succ, List.cons_append, List.nil_append, List.append_nil, Nat.reduceAdd, Nat.reduceSub, Nat.sub_zero, Nat.sub_self, Nat.zero_add, List.getElem?_cons_zero, List.getElem?_cons_succ, decide_true, decide_false, Bool.not_true, Bool.not_false, List.isEmpty_cons, List.isEmpty_nil, Nat.reduceLeDiff, Nat.reduceSucc, x_Me, x_meK, x_Me0, ty_ss, ty_lo, ty_ll, ty_dd, ty_lr, ap_o, up_l, pop_o, pop_l, asT_o, tru_l, tru_d, ext_o, lsts_r, lsts_t, x_chain, in_ssF, in_ssT, in_t, in_r, in_o, inK_sF, inK_sT, flat_s, flat_i, List.all_cons, List.all_nil, Bool.and_true, Bool.true_and, rev_t, rev_r, sum_r, maxL_r, minL_r, any_r, all_r, inc_ii, x_aug, x_lc, x_lc2, lcEnd_f, lcEnd_t, x_yes, x_Sl, x_oN, x_oS, asI_i, sl_t, sl_r, cut1, js_nil, js_cons, add_or, x_small, hd, div_ii c1, div_ii c2]
  · rw [if_neg hd] at e
    rw [e] at c1 c2 ⊢
    simp only [m_fraction, x_bnd, k_ok, k_exc, k_stuck, x_giv, x_fail, selM_t, selM_f, selS_t, selS_f, sK_ok, sK_exc, sK_stuck, x_seq, seq_nx, seq_bk, seq_ct, seq_rt, seq_exc, seq_stuck, x_ret, x_retN, x_exp, x_set, x_nil, x_brk, x_cnt, x_tgt, tK_ok, tK_stuck, x_asgK, x_asg, ifK_t, ifK_f, x_if, x_fgK, fK_bk, fK_rt, fK_exc, for_src, x_fpK, fpK_nx, fpK_ct, srcK_nil, srcK_rng, x_for, x_def, defK_rt, defK_nx, defK_exc, slot_some, x_slot, x_c, x_Nil, x_consK, x_cons, x_F, x_m2K, x_m2, x_m1, x_B, x_T, asB_bl, asT_bl, asT_int, asT_non, asT_tup, asT_rol, asT_frz, x_And, x_Or, andK_t, andK_f, orK_t, orK_f, x_Not, x_AndV, x_OrV, x_andVK, x_orVK, x_NotV, x_IfE, ifEK_t, ifEK_f, x_Tup, x_Lst, x_mkF, x_mkT, x_Call, add_ii, sub_ii, neg_i, cmp_ii, eq_ii, eq_bb, eq_ss, ne_ii, ne_ss, is_n, isnot_n, non_n, non_i, non_b, non_s, non_t, non_r, non_o, ix_t, ix_r, ix_f, lst_s, ix_oo, len_oo, srcL_oo, set_oo, setO_l, opt_s, len_t, len_r, len_f, abs_i, int_i, int_b, max_ii, min_ii, gcd_ii, list_f, list_r, list_t, tuple_r, tuple_t, x_It, x_Nm, x_Tp, x_gN, x_gC, x_iE, x_iF, srcL_f, srcL_r, srcT_t, srcS_s, x_Isi, isi_tt, isi_ti, isi_tn, isi_tb, isi_ts, isi_bt, isi_bi, isi_bn, isi_bb, isi_bs, isi_st, isi_si, isi_sn, isi_sb, isi_ss, isi_it, isi_ii, isi_in, isi_ib, isi_is, at0, at1, at2, at3, ix0, ix1, ix2, ix3, whC_t, whC_f, whK_nx, whK_ct, whK_bk, whK_rt, List.map_cons, List.map_nil, List.length_cons, List.length_nil, List.replicate_succ, List.replicate_zero, List.set_cons_zero, List.set_cons_succ, List.cons_append, List.nil_append, List.append_nil, Nat.reduceAdd, Nat.reduceSub, Nat.sub_zero, Nat.sub_self, Nat.zero_add, List.getElem?_cons_zero, List.getElem?_cons_succ, decide_true, decide_false, Bool.not_true, Bool.not_false, List.isEmpty_cons, List.isEmpty_nil, Nat.reduceLeDiff, Nat.reduceSucc, x_Me, x_meK, x_Me0, ty_ss, ty_lo, ty_ll, ty_dd, ty_lr, ap_o, up_l, pop_o, pop_l, asT_o, tru_l, tru_d, ext_o, lsts_r, lsts_t, x_chain, in_ssF, in_ssT, in_t, in_r, in_o, inK_sF, inK_sT, flat_s, flat_i, List.all_cons, List.all_nil, Bool.and_true, Bool.true_and, rev_t, rev_r, sum_r, maxL_r, minL_r, any_r, all_r, inc_ii, x_aug, x_lc, x_lc2, lcEnd_f, lcEnd_t, x_yes, x_Sl, x_oN, x_oS, asI_i, sl_t, sl_r, cut1, js_nil, js_cons, add_or, x_small, hd, div_ii c1, div_ii c2]
theorem lawfraction_spec {n d : Int} {k : Nat} (h : d ≠ 0) (b : bits d k) (h0 : 0 < k) (h9 : k ≤ 9000) (S : Store) : m__law_fraction [.int n, .int d] S = .ok (pr (fr n d)) S := by
  have c1 := frG_div (n := n) (x := n) h b h0 h9
  have c2 := frG_div (n := n) (x := d) h b h0 h9
  have e := frG_eq (n := n) (d := d)
  unfold pr fr
  by_cases hd : d < 0
  · rw [if_pos hd] at e
    rw [e] at c1 c2 ⊢
    simp only [m__law_fraction, x_bnd, k_ok, k_exc, k_stuck, x_giv, x_fail, selM_t, selM_f, selS_t, selS_f, sK_ok, sK_exc, sK_stuck, x_seq, seq_nx, seq_bk, seq_ct, seq_rt, seq_exc, seq_stuck, x_ret, x_retN, x_exp, x_set, x_nil, x_brk, x_cnt, x_tgt, tK_ok, tK_stuck, x_asgK, x_asg, ifK_t, ifK_f, x_if, x_fgK, fK_bk, fK_rt, fK_exc, for_src, x_fpK, fpK_nx, fpK_ct, srcK_nil, srcK_rng, x_for, x_def, defK_rt, defK_nx, defK_exc, slot_some, x_slot, x_c, x_Nil, x_consK, x_cons, x_F, x_m2K, x_m2, x_m1, x_B, x_T, asB_bl, asT_bl, asT_int, asT_non, asT_tup, asT_rol, asT_frz, x_And, x_Or, andK_t, andK_f, orK_t, orK_f, x_Not, x_AndV, x_OrV, x_andVK, x_orVK, x_NotV, x_IfE, ifEK_t, ifEK_f, x_Tup, x_Lst, x_mkF, x_mkT, x_Call, add_ii, sub_ii, neg_i, cmp_ii, eq_ii, eq_bb, eq_ss, ne_ii, ne_ss, is_n, isnot_n, non_n, non_i, non_b, non_s, non_t, non_r, non_o, ix_t, ix_r, ix_f, lst_s, ix_oo, len_oo, srcL_oo, set_oo, setO_l, opt_s, len_t, len_r, len_f, abs_i, int_i, int_b, max_ii, min_ii, gcd_ii, list_f, list_r, list_t, tuple_r, tuple_t, x_It, x_Nm, x_Tp, x_gN, x_gC, x_iE, x_iF, srcL_f, srcL_r, srcT_t, srcS_s, x_Isi, isi_tt, isi_ti, isi_tn, isi_tb, isi_ts, isi_bt, isi_bi, isi_bn, isi_bb, isi_bs, isi_st, isi_si, isi_sn, isi_sb, isi_ss, isi_it, isi_ii, isi_in, isi_ib, isi_is, at0, at1, at2, at3, ix0, ix1, ix2, ix3, whC_t, whC_f, whK_nx, whK_ct, whK_bk, whK_rt, List.map_cons, List.map_nil, List.length_cons, List.length_nil, List.replicate_succ, List.replicate_zero, List.set_cons_zero, List.set_cons_succ, List.cons_append, List.nil_append, List.append_nil, Nat.reduceAdd, Nat.reduceSub, Nat.sub_zero, Nat.sub_self, Nat.zero_add, List.getElem?_cons_zero, List.getElem?_cons_succ, decide_true, decide_false, Bool.not_true, Bool.not_false, List.isEmpty_cons, List.isEmpty_nil, Nat.reduceLeDiff, Nat.reduceSucc, x_Me, x_meK, x_Me0, ty_ss, ty_lo, ty_ll, ty_dd, ty_lr, ap_o, up_l, pop_o, pop_l, asT_o, tru_l, tru_d, ext_o, lsts_r, lsts_t, x_chain, in_ssF, in_ssT, in_t, in_r, in_o, inK_sF, inK_sT, flat_s, flat_i, List.all_cons, List.all_nil, Bool.and_true, Bool.true_and, rev_t, rev_r, sum_r, maxL_r, minL_r, any_r, all_r, inc_ii, x_aug, x_lc, x_lc2, lcEnd_f, lcEnd_t, x_yes, x_Sl, x_oN, x_oS, asI_i, sl_t, sl_r, cut1, js_nil, js_cons, add_or, x_small, hd, div_ii c1, div_ii c2, x_need, gcd_spec]
  · rw [if_neg hd] at e
    rw [e] at c1 c2 ⊢
    simp only [m__law_fraction, x_bnd, k_ok, k_exc, k_stuck, x_giv, x_fail, selM_t, selM_f, selS_t, selS_f, sK_ok, sK_exc, sK_stuck, x_seq, seq_nx, seq_bk, seq_ct, seq_rt, seq_exc, seq_stuck, x_ret, x_retN, x_exp, x_set, x_nil, x_brk, x_cnt, x_tgt, tK_ok, tK_stuck, x_asgK, x_asg, ifK_t, ifK_f, x_if, x_fgK, fK_bk, fK_rt, fK_exc, for_src, x_fpK, fpK_nx, fpK_ct, srcK_nil, srcK_rng, x_for, x_def, defK_rt, defK_nx, defK_exc, slot_some, x_slot, x_c, x_Nil, x_consK, x_cons, x_F, x_m2K, x_m2, x_m1, x_B, x_T, asB_bl, asT_bl, asT_int, asT_non, asT_tup, asT_rol, asT_frz, x_And, x_Or, andK_t, andK_f, orK_t, orK_f, x_Not, x_AndV, x_OrV, x_andVK, x_orVK, x_NotV, x_IfE, ifEK_t, ifEK_f, x_Tup, x_Lst, x_mkF, x_mkT, x_Call, add_ii, sub_ii, neg_i, cmp_ii, eq_ii, eq_bb, eq_ss, ne_ii, ne_ss, is_n, isnot_n, non_n, non_i, non_b, non_s, non_t, non_r, non_o, ix_t, ix_r, ix_f, lst_s, ix_oo, len_oo, srcL_oo, set_oo, setO_l, opt_s, len_t, len_r, len_f, abs_i, int_i, int_b, max_ii, min_ii, gcd_ii, list_f, list_r, list_t, tuple_r, tuple_t, x_It, x_Nm, x_Tp, x_gN, x_gC, x_iE, x_iF, srcL_f, srcL_r, srcT_t, srcS_s, x_Isi, isi_tt, isi_ti, isi_tn, isi_tb, isi_ts, isi_bt, isi_bi, isi_bn, isi_bb, isi_bs, isi_st, isi_si, isi_sn, isi_sb, isi_ss, isi_it, isi_ii, isi_in, isi_ib, isi_is, at0, at1, at2, at3, ix0, ix1, ix2, ix3, whC_t, whC_f, whK_nx, whK_ct, whK_bk, whK_rt, List.map_cons, List.map_nil, List.length_cons, List.length_nil, List.replicate_succ, List.replicate_zero, List.set_cons_zero, List.set_cons_succ, List.cons_append, List.nil_append, List.append_nil, Nat.reduceAdd, Nat.reduceSub, Nat.sub_zero, Nat.sub_self, Nat.zero_add, List.getElem?_cons_zero, List.getElem?_cons_succ, decide_true, decide_false, Bool.not_true, Bool.not_false, List.isEmpty_cons, List.isEmpty_nil, Nat.reduceLeDiff, Nat.reduceSucc, x_Me, x_meK, x_Me0, ty_ss, ty_lo, ty_ll, ty_dd, ty_lr, ap_o, up_l, pop_o, pop_l, asT_o, tru_l, tru_d, ext_o, lsts_r, lsts_t, x_chain, in_ssF, in_ssT, in_t, in_r, in_o, inK_sF, inK_sT, flat_s, flat_i, List.all_cons, List.all_nil, Bool.and_true, Bool.true_and, rev_t, rev_r, sum_r, maxL_r, minL_r, any_r, all_r, inc_ii, x_aug, x_lc, x_lc2, lcEnd_f, lcEnd_t, x_yes, x_Sl, x_oN, x_oS, asI_i, sl_t, sl_r, cut1, js_nil, js_cons, add_or, x_small, hd, div_ii c1, div_ii c2, x_need, gcd_spec]
/-! ### the same, a fraction -/
theorem same_int (n : Nat) (a b : Int) (S : Store) : m__law_same (n + 1) [.int a, .int b] S = .ok (.bl (decide (a = b))) S := by
  by_cases h : a = b
  · subst h
    simp only [m__law_same, x_bnd, k_ok, k_exc, k_stuck, x_giv, x_fail, selM_t, selM_f, selS_t, selS_f, sK_ok, sK_exc, sK_stuck, x_seq, seq_nx, seq_bk, seq_ct, seq_rt, seq_exc, seq_stuck, x_ret, x_retN, x_exp, x_set, x_nil, x_brk, x_cnt, x_tgt, tK_ok, tK_stuck, x_asgK, x_asg, ifK_t, ifK_f, x_if, x_fgK, fK_bk, fK_rt, fK_exc, for_src, x_fpK, fpK_nx, fpK_ct, srcK_nil, srcK_rng, x_for, x_def, defK_rt, defK_nx, defK_exc, slot_some, x_slot, x_c, x_Nil, x_consK, x_cons, x_F, x_m2K, x_m2, x_m1, x_B, x_T, asB_bl, asT_bl, asT_int, asT_non, asT_tup, asT_rol, asT_frz, x_And, x_Or, andK_t, andK_f, orK_t, orK_f, x_Not, x_AndV, x_OrV, x_andVK, x_orVK, x_NotV, x_IfE, ifEK_t, ifEK_f, x_Tup, x_Lst, x_mkF, x_mkT, x_Call, add_ii, sub_ii, neg_i, cmp_ii, eq_ii, eq_bb, eq_ss, ne_ii, ne_ss, is_n, isnot_n, non_n, non_i, non_b, non_s, non_t, non_r, non_o, ix_t, ix_r, ix_f, lst_s, ix_oo, len_oo, srcL_oo, set_oo, setO_l, opt_s, len_t, len_r, len_f, abs_i, int_i, int_b, max_ii, min_ii, gcd_ii, list_f, list_r, list_t, tuple_r, tuple_t, x_It, x_Nm, x_Tp, x_gN, x_gC, x_iE, x_iF, srcL_f, srcL_r, srcT_t, srcS_s, x_Isi, isi_tt, isi_ti, isi_tn, isi_tb, isi_ts, isi_bt, isi_bi, isi_bn, isi_bb, isi_bs, isi_st, isi_si, isi_sn, isi_sb, isi_ss, isi_it, isi_ii, isi_in, isi_ib, isi_is, at0, at1, at2, at3, ix0, ix1, ix2, ix3, whC_t, whC_f, whK_nx, whK_ct, whK_bk, whK_rt, List.map_cons, List.map_nil, List.length_cons, List.length_nil, List.replicate_succ, List.replicate_zero, List.set_cons_zero, List.set_cons_succ, List.cons_append, List.nil_append, List.append_nil, Nat.reduceAdd, Nat.reduceSub, Nat.sub_zero, Nat.sub_self, Nat.zero_add, List.getElem?_cons_zero, List.getElem?_cons_succ, decide_true, decide_false, Bool.not_true, Bool.not_false, List.isEmpty_cons, List.isEmpty_nil, Nat.reduceLeDiff, Nat.reduceSucc, x_Me, x_meK, x_Me0, ty_ss, ty_lo, ty_ll, ty_dd, ty_lr, ap_o, up_l, pop_o, pop_l, asT_o, tru_l, tru_d, ext_o, lsts_r, lsts_t, x_chain, in_ssF, in_ssT, in_t, in_r, in_o, inK_sF, inK_sT, flat_s, flat_i, List.all_cons, List.all_nil, Bool.and_true, Bool.true_and, rev_t, rev_r, sum_r, maxL_r, minL_r, any_r, all_r, inc_ii, x_aug, x_lc, x_lc2, lcEnd_f, lcEnd_t, x_yes, x_Sl, x_oN, x_oS, asI_i, sl_t, sl_r, cut1, js_nil, js_cons, add_or, x_small]
  · simp only [m__law_same, x_bnd, k_ok, k_exc, k_stuck, x_giv, x_fail, selM_t, selM_f, selS_t, selS_f, sK_ok, sK_exc, sK_stuck, x_seq, seq_nx, seq_bk, seq_ct, seq_rt, seq_exc, seq_stuck, x_ret, x_retN, x_exp, x_set, x_nil, x_brk, x_cnt, x_tgt, tK_ok, tK_stuck, x_asgK, x_asg, ifK_t, ifK_f, x_if, x_fgK, fK_bk, fK_rt, fK_exc, for_src, x_fpK, fpK_nx, fpK_ct, srcK_nil, srcK_rng, x_for, x_def, defK_rt, defK_nx, defK_exc, slot_some, x_slot, x_c, x_Nil, x_consK, x_cons, x_F, x_m2K, x_m2, x_m1, x_B, x_T, asB_bl, asT_bl, asT_int, asT_non, asT_tup, asT_rol, asT_frz, x_And, x_Or, andK_t, andK_f, orK_t, orK_f, x_Not, x_AndV, x_OrV, x_andVK, x_orVK, x_NotV, x_IfE, ifEK_t, ifEK_f, x_Tup, x_Lst, x_mkF, x_mkT, x_Call, add_ii, sub_ii, neg_i, cmp_ii, eq_ii, eq_bb, eq_ss, ne_ii, ne_ss, is_n, isnot_n, non_n, non_i, non_b, non_s, non_t, non_r, non_o, ix_t, ix_r, ix_f, lst_s, ix_oo, len_oo, srcL_oo, set_oo, setO_l, opt_s, len_t, len_r, len_f, abs_i, int_i, int_b, max_ii, min_ii, gcd_ii, list_f, list_r, list_t, tuple_r, tuple_t, x_It, x_Nm, x_Tp, x_gN, x_gC, x_iE, x_iF, srcL_f, srcL_r, srcT_t, srcS_s, x_Isi, isi_tt, isi_ti, isi_tn, isi_tb, isi_ts, isi_bt, isi_bi, isi_bn, isi_bb, isi_bs, isi_st, isi_si, isi_sn, isi_sb, isi_ss, isi_it, isi_ii, isi_in, isi_ib, isi_is, at0, at1, at2, at3, ix0, ix1, ix2, ix3, whC_t, whC_f, whK_nx, whK_ct, whK_bk, whK_rt, List.map_cons, List.map_nil, List.length_cons, List.length_nil, List.replicate_succ, List.replicate_zero, List.set_cons_zero, List.set_cons_succ, List.cons_append, List.nil_append, List.append_nil, Nat.reduceAdd, Nat.reduceSub, Nat.sub_zero, Nat.sub_self, Nat.zero_add, List.getElem?_cons_zero, List.getElem?_cons_succ, decide_true, decide_false, Bool.not_true, Bool.not_false, List.isEmpty_cons, List.isEmpty_nil, Nat.reduceLeDiff, Nat.reduceSucc, x_Me, x_meK, x_Me0, ty_ss, ty_lo, ty_ll, ty_dd, ty_lr, ap_o, up_l, pop_o, pop_l, asT_o, tru_l, tru_d, ext_o, lsts_r, lsts_t, x_chain, in_ssF, in_ssT, in_t, in_r, in_o, inK_sF, inK_sT, flat_s, flat_i, List.all_cons, List.all_nil, Bool.and_true, Bool.true_and, rev_t, rev_r, sum_r, maxL_r, minL_r, any_r, all_r, inc_ii, x_aug, x_lc, x_lc2, lcEnd_f, lcEnd_t, x_yes, x_Sl, x_oN, x_oS, asI_i, sl_t, sl_r, cut1, js_nil, js_cons, add_or, x_small, h]
/-- longer is nothing here -/
def Lim : Nat := 1000000
theorem lim_eq : Lim = 1000000 := rfl
/-- data of which the same is the same as equal: n deep -/
def plain : Nat → D → Prop
  | 0, _ => False
  | n + 1, d => match d with
    | .non => True
    | .bl _ => True
    | .int _ => True
    | .str _ => True
    | .tup ds => ds.length < Lim ∧ ∀ x ∈ ds, plain n x
    | _ => False
theorem range_from (n k : Nat) : (List.range (n + k)).drop n = (List.range k).map (n + ·) := by
  rw [List.range_add, List.drop_left' (by simp)]
/-- a loop over range(n) by what is true ahead of turn i -/
theorem for_range_inv {g : MG} {b : MS} {n : Nat} {lo : Int} (P : Nat → Env → Store → Prop) (step : ∀ i env S, i < n → P i env S → ∃ env' S', fpK g b [] env S = fpK g b [] env S ∧ (∀ ds, tK (fpK g b ds) (g (.int (lo + i)) env S) = forP g b ds env' S') ∧ P (i + 1) env' S') :
    ∀ (k i : Nat) (env : Env) (S : Store), i + k = n → P i env S → ∃ env' S', forP g b ((List.range k).map fun (j : Nat) => .int (lo + ((i + j : Nat) : Int))) env S = .nx env' S' ∧ P n env' S'
  | 0, i, env, S, h, p => ⟨env, S, fp_nil, by rw [← h]; exact p⟩
  | k + 1, i, env, S, h, p => by
    obtain ⟨env1, S1, _, e1, p1⟩ := step i env S (by omega) p
    obtain ⟨env2, S2, e2, p2⟩ := for_range_inv P step k (i + 1) env1 S1 (by omega) p1
    refine ⟨env2, S2, ?_, p2⟩
    rw [List.range_succ_eq_map, List.map_cons, fp_cons, Nat.add_zero, e1, List.map_map, ← e2]
    congr 1
    refine List.map_congr_left fun j _ => ?_
    show D.int (lo + ((i + (j + 1) : Nat) : Int)) = D.int (lo + ((i + 1 + j : Nat) : Int))
    rw [show i + (j + 1) = i + 1 + j by omega]
theorem for_range0 {g : MG} {b : MS} {n : Nat} (P : Nat → Env → Store → Prop) (step : ∀ i env S, i < n → P i env S → ∃ env' S', (∀ ds, tK (fpK g b ds) (g (.int i) env S) = forP g b ds env' S') ∧ P (i + 1) env' S') {env : Env} {S : Store} (h0 : P 0 env S) :
    ∃ env' S', forP g b ((List.range ((n : Int) - 0).toNat).map fun (j : Nat) => .int (0 + (j : Int))) env S = .nx env' S' ∧ P n env' S' := by
  obtain ⟨env', S', e, p⟩ := for_range_inv (lo := 0) P (fun i env S hi hp => let ⟨a, b, c, d⟩ := step i env S hi hp; ⟨a, b, rfl, by rw [Int.zero_add]; exact c, d⟩) n 0 env S (by omega) h0
  refine ⟨env', S', ?_, p⟩
  rw [← e]
  congr 1
  rw [show ((n : Int) - 0).toNat = n by omega]
  refine List.map_congr_left fun j _ => ?_
  rw [Nat.zero_add]
theorem at_nat {ds : List D} {i : Nat} (h : i < ds.length) : atI ds (i : Int) = some ds[i] := atI_nat (List.getElem?_eq_getElem h)
theorem same_self (n : Nat) : ∀ (d : D) (S : Store), plain n d → m__law_same n [d, d] S = .ok (.bl true) S := by
  induction n with
  | zero => exact fun _ _ h => h.elim
  | succ n ih =>
    intro d S h
    cases d with
    | non => simp only [m__law_same, x_bnd, k_ok, k_exc, k_stuck, x_giv, x_fail, selM_t, selM_f, selS_t, selS_f, sK_ok, sK_exc, sK_stuck, x_seq, seq_nx, seq_bk, seq_ct, seq_rt, seq_exc, seq_stuck, x_ret, x_retN, x_exp, x_set, x_nil, x_brk, x_cnt, x_tgt, tK_ok, tK_stuck, x_asgK, x_asg, ifK_t, ifK_f, x_if, x_fgK, fK_bk, fK_rt, fK_exc, for_src, x_fpK, fpK_nx, fpK_ct, srcK_nil, srcK_rng, x_for, x_def, defK_rt, defK_nx, defK_exc, slot_some, x_slot, x_c, x_Nil, x_consK, x_cons, x_F, x_m2K, x_m2, x_m1, x_B, x_T, asB_bl, asT_bl, asT_int, asT_non, asT_tup, asT_rol, asT_frz, x_And, x_Or, andK_t, andK_f, orK_t, orK_f, x_Not, x_AndV, x_OrV, x_andVK, x_orVK, x_NotV, x_IfE, ifEK_t, ifEK_f, x_Tup, x_Lst, x_mkF, x_mkT, x_Call, add_ii, sub_ii, neg_i, cmp_ii, eq_ii, eq_bb, eq_ss, ne_ii, ne_ss, is_n, isnot_n, non_n, non_i, non_b, non_s, non_t, non_r, non_o, ix_t, ix_r, ix_f, lst_s, ix_oo, len_oo, srcL_oo, set_oo, setO_l, opt_s, len_t, len_r, len_f, abs_i, int_i, int_b, max_ii, min_ii, gcd_ii, list_f, list_r, list_t, tuple_r, tuple_t, x_It, x_Nm, x_Tp, x_gN, x_gC, x_iE, x_iF, srcL_f, srcL_r, srcT_t, srcS_s, x_Isi, isi_tt, isi_ti, isi_tn, isi_tb, isi_ts, isi_bt, isi_bi, isi_bn, isi_bb, isi_bs, isi_st, isi_si, isi_sn, isi_sb, isi_ss, isi_it, isi_ii, isi_in, isi_ib, isi_is, at0, at1, at2, at3, ix0, ix1, ix2, ix3, whC_t, whC_f, whK_nx, whK_ct, whK_bk, whK_rt, List.map_cons, List.map_nil, List.length_cons, List.length_nil, List.replicate_succ, List.replicate_zero, List.set_cons_zero, List.set_cons_succ, List.cons_append, List.nil_append, List.append_nil, Nat.reduceAdd, Nat.reduceSub, Nat.sub_zero, Nat.sub_self, Nat.zero_add, List.getElem?_cons_zero, List.getElem?_cons_succ, decide_true, decide_false, Bool.not_true, Bool.not_false, List.isEmpty_cons, List.isEmpty_nil, Nat.reduceLeDiff, Nat.reduceSucc, x_Me, x_meK, x_Me0, ty_ss, ty_lo, ty_ll, ty_dd, ty_lr, ap_o, up_l, pop_o, pop_l, asT_o, tru_l, tru_d, ext_o, lsts_r, lsts_t, x_chain, in_ssF, in_ssT, in_t, in_r, in_o, inK_sF, inK_sT, flat_s, flat_i, List.all_cons, List.all_nil, Bool.and_true, Bool.true_and, rev_t, rev_r, sum_r, maxL_r, minL_r, any_r, all_r, inc_ii, x_aug, x_lc, x_lc2, lcEnd_f, lcEnd_t, x_yes, x_Sl, x_oN, x_oS, asI_i, sl_t, sl_r, cut1, js_nil, js_cons, add_or, x_small]
    | bl b => simp only [m__law_same, x_bnd, k_ok, k_exc, k_stuck, x_giv, x_fail, selM_t, selM_f, selS_t, selS_f, sK_ok, sK_exc, sK_stuck, x_seq, seq_nx, seq_bk, seq_ct, seq_rt, seq_exc, seq_stuck, x_ret, x_retN, x_exp, x_set, x_nil, x_brk, x_cnt, x_tgt, tK_ok, tK_stuck, x_asgK, x_asg, ifK_t, ifK_f, x_if, x_fgK, fK_bk, fK_rt, fK_exc, for_src, x_fpK, fpK_nx, fpK_ct, srcK_nil, srcK_rng, x_for, x_def, defK_rt, defK_nx, defK_exc, slot_some, x_slot, x_c, x_Nil, x_consK, x_cons, x_F, x_m2K, x_m2, x_m1, x_B, x_T, asB_bl, asT_bl, asT_int, asT_non, asT_tup, asT_rol, asT_frz, x_And, x_Or, andK_t, andK_f, orK_t, orK_f, x_Not, x_AndV, x_OrV, x_andVK, x_orVK, x_NotV, x_IfE, ifEK_t, ifEK_f, x_Tup, x_Lst, x_mkF, x_mkT, x_Call, add_ii, sub_ii, neg_i, cmp_ii, eq_ii, eq_bb, eq_ss, ne_ii, ne_ss, is_n, isnot_n, non_n, non_i, non_b, non_s, non_t, non_r, non_o, ix_t, ix_r, ix_f, lst_s, ix_oo, len_oo, srcL_oo, set_oo, setO_l, opt_s, len_t, len_r, len_f, abs_i, int_i, int_b, max_ii, min_ii, gcd_ii, list_f, list_r, list_t, tuple_r, tuple_t, x_It, x_Nm, x_Tp, x_gN, x_gC, x_iE, x_iF, srcL_f, srcL_r, srcT_t, srcS_s, x_Isi, isi_tt, isi_ti, isi_tn, isi_tb, isi_ts, isi_bt, isi_bi, isi_bn, isi_bb, isi_bs, isi_st, isi_si, isi_sn, isi_sb, isi_ss, isi_it, isi_ii, isi_in, isi_ib, isi_is, at0, at1, at2, at3, ix0, ix1, ix2, ix3, whC_t, whC_f, whK_nx, whK_ct, whK_bk, whK_rt, List.map_cons, List.map_nil, List.length_cons, List.length_nil, List.replicate_succ, List.replicate_zero, List.set_cons_zero, List.set_cons_succ, List.cons_append, List.nil_append, List.append_nil, Nat.reduceAdd, Nat.reduceSub, Nat.sub_zero, Nat.sub_self, Nat.zero_add, List.getElem?_cons_zero, List.getElem?_cons_succ, decide_true, decide_false, Bool.not_true, Bool.not_false, List.isEmpty_cons, List.isEmpty_nil, Nat.reduceLeDiff, Nat.reduceSucc, x_Me, x_meK, x_Me0, ty_ss, ty_lo, ty_ll, ty_dd, ty_lr, ap_o, up_l, pop_o, pop_l, asT_o, tru_l, tru_d, ext_o, lsts_r, lsts_t, x_chain, in_ssF, in_ssT, in_t, in_r, in_o, inK_sF, inK_sT, flat_s, flat_i, List.all_cons, List.all_nil, Bool.and_true, Bool.true_and, rev_t, rev_r, sum_r, maxL_r, minL_r, any_r, all_r, inc_ii, x_aug, x_lc, x_lc2, lcEnd_f, lcEnd_t, x_yes, x_Sl, x_oN, x_oS, asI_i, sl_t, sl_r, cut1, js_nil, js_cons, add_or, x_small]
    | int i => simp only [m__law_same, x_bnd, k_ok, k_exc, k_stuck, x_giv, x_fail, selM_t, selM_f, selS_t, selS_f, sK_ok, sK_exc, sK_stuck, x_seq, seq_nx, seq_bk, seq_ct, seq_rt, seq_exc, seq_stuck, x_ret, x_retN, x_exp, x_set, x_nil, x_brk, x_cnt, x_tgt, tK_ok, tK_stuck, x_asgK, x_asg, ifK_t, ifK_f, x_if, x_fgK, fK_bk, fK_rt, fK_exc, for_src, x_fpK, fpK_nx, fpK_ct, srcK_nil, srcK_rng, x_for, x_def, defK_rt, defK_nx, defK_exc, slot_some, x_slot, x_c, x_Nil, x_consK, x_cons, x_F, x_m2K, x_m2, x_m1, x_B, x_T, asB_bl, asT_bl, asT_int, asT_non, asT_tup, asT_rol, asT_frz, x_And, x_Or, andK_t, andK_f, orK_t, orK_f, x_Not, x_AndV, x_OrV, x_andVK, x_orVK, x_NotV, x_IfE, ifEK_t, ifEK_f, x_Tup, x_Lst, x_mkF, x_mkT, x_Call, add_ii, sub_ii, neg_i, cmp_ii, eq_ii, eq_bb, eq_ss, ne_ii, ne_ss, is_n, isnot_n, non_n, non_i, non_b, non_s, non_t, non_r, non_o, ix_t, ix_r, ix_f, lst_s, ix_oo, len_oo, srcL_oo, set_oo, setO_l, opt_s, len_t, len_r, len_f, abs_i, int_i, int_b, max_ii, min_ii, gcd_ii, list_f, list_r, list_t, tuple_r, tuple_t, x_It, x_Nm, x_Tp, x_gN, x_gC, x_iE, x_iF, srcL_f, srcL_r, srcT_t, srcS_s, x_Isi, isi_tt, isi_ti, isi_tn, isi_tb, isi_ts, isi_bt, isi_bi, isi_bn, isi_bb, isi_bs, isi_st, isi_si, isi_sn, isi_sb, isi_ss, isi_it, isi_ii, isi_in, isi_ib, isi_is, at0, at1, at2, at3, ix0, ix1, ix2, ix3, whC_t, whC_f, whK_nx, whK_ct, whK_bk, whK_rt, List.map_cons, List.map_nil, List.length_cons, List.length_nil, List.replicate_succ, List.replicate_zero, List.set_cons_zero, List.set_cons_succ, List.cons_append, List.nil_append, List.append_nil, Nat.reduceAdd, Nat.reduceSub, Nat.sub_zero, Nat.sub_self, Nat.zero_add, List.getElem?_cons_zero, List.getElem?_cons_succ, decide_true, decide_false, Bool.not_true, Bool.not_false, List.isEmpty_cons, List.isEmpty_nil, Nat.reduceLeDiff, Nat.reduceSucc, x_Me, x_meK, x_Me0, ty_ss, ty_lo, ty_ll, ty_dd, ty_lr, ap_o, up_l, pop_o, pop_l, asT_o, tru_l, tru_d, ext_o, lsts_r, lsts_t, x_chain, in_ssF, in_ssT, in_t, in_r, in_o, inK_sF, inK_sT, flat_s, flat_i, List.all_cons, List.all_nil, Bool.and_true, Bool.true_and, rev_t, rev_r, sum_r, maxL_r, minL_r, any_r, all_r, inc_ii, x_aug, x_lc, x_lc2, lcEnd_f, lcEnd_t, x_yes, x_Sl, x_oN, x_oS, asI_i, sl_t, sl_r, cut1, js_nil, js_cons, add_or, x_small]
    | str s => simp only [m__law_same, x_bnd, k_ok, k_exc, k_stuck, x_giv, x_fail, selM_t, selM_f, selS_t, selS_f, sK_ok, sK_exc, sK_stuck, x_seq, seq_nx, seq_bk, seq_ct, seq_rt, seq_exc, seq_stuck, x_ret, x_retN, x_exp, x_set, x_nil, x_brk, x_cnt, x_tgt, tK_ok, tK_stuck, x_asgK, x_asg, ifK_t, ifK_f, x_if, x_fgK, fK_bk, fK_rt, fK_exc, for_src, x_fpK, fpK_nx, fpK_ct, srcK_nil, srcK_rng, x_for, x_def, defK_rt, defK_nx, defK_exc, slot_some, x_slot, x_c, x_Nil, x_consK, x_cons, x_F, x_m2K, x_m2, x_m1, x_B, x_T, asB_bl, asT_bl, asT_int, asT_non, asT_tup, asT_rol, asT_frz, x_And, x_Or, andK_t, andK_f, orK_t, orK_f, x_Not, x_AndV, x_OrV, x_andVK, x_orVK, x_NotV, x_IfE, ifEK_t, ifEK_f, x_Tup, x_Lst, x_mkF, x_mkT, x_Call, add_ii, sub_ii, neg_i, cmp_ii, eq_ii, eq_bb, eq_ss, ne_ii, ne_ss, is_n, isnot_n, non_n, non_i, non_b, non_s, non_t, non_r, non_o, ix_t, ix_r, ix_f, lst_s, ix_oo, len_oo, srcL_oo, set_oo, setO_l, opt_s, len_t, len_r, len_f, abs_i, int_i, int_b, max_ii, min_ii, gcd_ii, list_f, list_r, list_t, tuple_r, tuple_t, x_It, x_Nm, x_Tp, x_gN, x_gC, x_iE, x_iF, srcL_f, srcL_r, srcT_t, srcS_s, x_Isi, isi_tt, isi_ti, isi_tn, isi_tb, isi_ts, isi_bt, isi_bi, isi_bn, isi_bb, isi_bs, isi_st, isi_si, isi_sn, isi_sb, isi_ss, isi_it, isi_ii, isi_in, isi_ib, isi_is, at0, at1, at2, at3, ix0, ix1, ix2, ix3, whC_t, whC_f, whK_nx, whK_ct, whK_bk, whK_rt, List.map_cons, List.map_nil, List.length_cons, List.length_nil, List.replicate_succ, List.replicate_zero, List.set_cons_zero, List.set_cons_succ, List.cons_append, List.nil_append, List.append_nil, Nat.reduceAdd, Nat.reduceSub, Nat.sub_zero, Nat.sub_self, Nat.zero_add, List.getElem?_cons_zero, List.getElem?_cons_succ, decide_true, decide_false, Bool.not_true, Bool.not_false, List.isEmpty_cons, List.isEmpty_nil, Nat.reduceLeDiff, Nat.reduceSucc, x_Me, x_meK, x_Me0, ty_ss, ty_lo, ty_ll, ty_dd, ty_lr, ap_o, up_l, pop_o, pop_l, asT_o, tru_l, tru_d, ext_o, lsts_r, lsts_t, x_chain, in_ssF, in_ssT, in_t, in_r, in_o, inK_sF, inK_sT, flat_s, flat_i, List.all_cons, List.all_nil, Bool.and_true, Bool.true_and, rev_t, rev_r, sum_r, maxL_r, minL_r, any_r, all_r, inc_ii, x_aug, x_lc, x_lc2, lcEnd_f, lcEnd_t, x_yes, x_Sl, x_oN, x_oS, asI_i, sl_t, sl_r, cut1, js_nil, js_cons, add_or, x_small]
    | tup ds =>
      obtain ⟨h1, h2⟩ : ds.length < Lim ∧ ∀ x ∈ ds, plain n x := h
      rw [lim_eq] at h1
      have r := rng1_i (S := S) (j := (ds.length : Int)) (by omega)
      obtain ⟨env', S', e, rfl, o, rfl⟩ := for_range0 (g := gNm 2) (b := sIf (mNot (mT (mCall 2 (m__law_same n) (mCons (m2 dIx (mSlot 0) (mSlot 2)) (mCons (m2 dIx (mSlot 1) (mSlot 2)) mNil))))) (sRet (mC (.bl false))) sNil) (n := ds.length)
        (fun i env T => T = S ∧ ∃ o, env = [some (.tup ds), some (.tup ds), o]) (fun i env T hi ⟨hT, o, he⟩ => by
          subst hT he
          refine ⟨_, T, fun es => ?_, rfl, some (.int i), rfl⟩
          have q := ih ds[i] T (h2 _ (List.getElem_mem hi))
          simp only [x_bnd, k_ok, k_exc, k_stuck, x_giv, x_fail, selM_t, selM_f, selS_t, selS_f, sK_ok, sK_exc, sK_stuck, x_seq, seq_nx, seq_bk, seq_ct, seq_rt, seq_exc, seq_stuck, x_ret, x_retN, x_exp, x_set, x_nil, x_brk, x_cnt, x_tgt, tK_ok, tK_stuck, x_asgK, x_asg, ifK_t, ifK_f, x_if, x_fgK, fK_bk, fK_rt, fK_exc, for_src, x_fpK, fpK_nx, fpK_ct, srcK_nil, srcK_rng, x_for, x_def, defK_rt, defK_nx, defK_exc, slot_some, x_slot, x_c, x_Nil, x_consK, x_cons, x_F, x_m2K, x_m2, x_m1, x_B, x_T, asB_bl, asT_bl, asT_int, asT_non, asT_tup, asT_rol, asT_frz, x_And, x_Or, andK_t, andK_f, orK_t, orK_f, x_Not, x_AndV, x_OrV, x_andVK, x_orVK, x_NotV, x_IfE, ifEK_t, ifEK_f, x_Tup, x_Lst, x_mkF, x_mkT, x_Call, add_ii, sub_ii, neg_i, cmp_ii, eq_ii, eq_bb, eq_ss, ne_ii, ne_ss, is_n, isnot_n, non_n, non_i, non_b, non_s, non_t, non_r, non_o, ix_t, ix_r, ix_f, lst_s, ix_oo, len_oo, srcL_oo, set_oo, setO_l, opt_s, len_t, len_r, len_f, abs_i, int_i, int_b, max_ii, min_ii, gcd_ii, list_f, list_r, list_t, tuple_r, tuple_t, x_It, x_Nm, x_Tp, x_gN, x_gC, x_iE, x_iF, srcL_f, srcL_r, srcT_t, srcS_s, x_Isi, isi_tt, isi_ti, isi_tn, isi_tb, isi_ts, isi_bt, isi_bi, isi_bn, isi_bb, isi_bs, isi_st, isi_si, isi_sn, isi_sb, isi_ss, isi_it, isi_ii, isi_in, isi_ib, isi_is, at0, at1, at2, at3, ix0, ix1, ix2, ix3, whC_t, whC_f, whK_nx, whK_ct, whK_bk, whK_rt, List.map_cons, List.map_nil, List.length_cons, List.length_nil, List.replicate_succ, List.replicate_zero, List.set_cons_zero, List.set_cons_succ, List.cons_append, List.nil_append, List.append_nil, Nat.reduceAdd, Nat.reduceSub, Nat.sub_zero, Nat.sub_self, Nat.zero_add, List.getElem?_cons_zero, List.getElem?_cons_succ, decide_true, decide_false, Bool.not_true, Bool.not_false, List.isEmpty_cons, List.isEmpty_nil, Nat.reduceLeDiff, Nat.reduceSucc, x_Me, x_meK, x_Me0, ty_ss, ty_lo, ty_ll, ty_dd, ty_lr, ap_o, up_l, pop_o, pop_l, asT_o, tru_l, tru_d, ext_o, lsts_r, lsts_t, x_chain, in_ssF, in_ssT, in_t, in_r, in_o, inK_sF, inK_sT, flat_s, flat_i, List.all_cons, List.all_nil, Bool.and_true, Bool.true_and, rev_t, rev_r, sum_r, maxL_r, minL_r, any_r, all_r, inc_ii, x_aug, x_lc, x_lc2, lcEnd_f, lcEnd_t, x_yes, x_Sl, x_oN, x_oS, asI_i, sl_t, sl_r, cut1, js_nil, js_cons, add_or, x_small, x_need, at_nat hi, q]) (env := [some (.tup ds), some (.tup ds), none]) (S := S) ⟨rfl, none, rfl⟩
      simp only [m__law_same, x_bnd, k_ok, k_exc, k_stuck, x_giv, x_fail, selM_t, selM_f, selS_t, selS_f, sK_ok, sK_exc, sK_stuck, x_seq, seq_nx, seq_bk, seq_ct, seq_rt, seq_exc, seq_stuck, x_ret, x_retN, x_exp, x_set, x_nil, x_brk, x_cnt, x_tgt, tK_ok, tK_stuck, x_asgK, x_asg, ifK_t, ifK_f, x_if, x_fgK, fK_bk, fK_rt, fK_exc, for_src, x_fpK, fpK_nx, fpK_ct, srcK_nil, srcK_rng, x_for, x_def, defK_rt, defK_nx, defK_exc, slot_some, x_slot, x_c, x_Nil, x_consK, x_cons, x_F, x_m2K, x_m2, x_m1, x_B, x_T, asB_bl, asT_bl, asT_int, asT_non, asT_tup, asT_rol, asT_frz, x_And, x_Or, andK_t, andK_f, orK_t, orK_f, x_Not, x_AndV, x_OrV, x_andVK, x_orVK, x_NotV, x_IfE, ifEK_t, ifEK_f, x_Tup, x_Lst, x_mkF, x_mkT, x_Call, add_ii, sub_ii, neg_i, cmp_ii, eq_ii, eq_bb, eq_ss, ne_ii, ne_ss, is_n, isnot_n, non_n, non_i, non_b, non_s, non_t, non_r, non_o, ix_t, ix_r, ix_f, lst_s, ix_oo, len_oo, srcL_oo, set_oo, setO_l, opt_s, len_t, len_r, len_f, abs_i, int_i, int_b, max_ii, min_ii, gcd_ii, list_f, list_r, list_t, tuple_r, tuple_t, x_It, x_Nm, x_Tp, x_gN, x_gC, x_iE, x_iF, srcL_f, srcL_r, srcT_t, srcS_s, x_Isi, isi_tt, isi_ti, isi_tn, isi_tb, isi_ts, isi_bt, isi_bi, isi_bn, isi_bb, isi_bs, isi_st, isi_si, isi_sn, isi_sb, isi_ss, isi_it, isi_ii, isi_in, isi_ib, isi_is, at0, at1, at2, at3, ix0, ix1, ix2, ix3, whC_t, whC_f, whK_nx, whK_ct, whK_bk, whK_rt, List.map_cons, List.map_nil, List.length_cons, List.length_nil, List.replicate_succ, List.replicate_zero, List.set_cons_zero, List.set_cons_succ, List.cons_append, List.nil_append, List.append_nil, Nat.reduceAdd, Nat.reduceSub, Nat.sub_zero, Nat.sub_self, Nat.zero_add, List.getElem?_cons_zero, List.getElem?_cons_succ, decide_true, decide_false, Bool.not_true, Bool.not_false, List.isEmpty_cons, List.isEmpty_nil, Nat.reduceLeDiff, Nat.reduceSucc, x_Me, x_meK, x_Me0, ty_ss, ty_lo, ty_ll, ty_dd, ty_lr, ap_o, up_l, pop_o, pop_l, asT_o, tru_l, tru_d, ext_o, lsts_r, lsts_t, x_chain, in_ssF, in_ssT, in_t, in_r, in_o, inK_sF, inK_sT, flat_s, flat_i, List.all_cons, List.all_nil, Bool.and_true, Bool.true_and, rev_t, rev_r, sum_r, maxL_r, minL_r, any_r, all_r, inc_ii, x_aug, x_lc, x_lc2, lcEnd_f, lcEnd_t, x_yes, x_Sl, x_oN, x_oS, asI_i, sl_t, sl_r, cut1, js_nil, js_cons, add_or, x_small, r, e]
    | _ => exact h.elim
theorem plain_pr (p : Int × Int) : plain 2 (pr p) := ⟨by show 2 < Lim; decide, fun x hx => by
  have e : x = .int p.1 ∨ x = .int p.2 := by simpa [pr] using hx
  rcases e with rfl | rfl <;> trivial⟩
theorem plain_mono : ∀ {n : Nat} {d : D}, plain n d → plain (n + 1) d
  | 0, _, h => h.elim
  | n + 1, d, h => by
    cases d with
    | tup ds => exact ⟨h.1, fun x hx => plain_mono (h.2 x hx)⟩
    | rol _ => exact h.elim
    | frz _ => exact h.elim
    | obj _ => exact h.elim
    | _ => trivial
theorem plain_le {n m : Nat} {d : D} (h : plain n d) (k : n ≤ m) : plain m d := by
  induction k with
  | refl => exact h
  | step _ ih => exact plain_mono ih
theorem same_tt (a b : Int) (S : Store) : m__law_same 12 [.tup [.int a, .int b], .tup [.int a, .int b]] S = .ok (.bl true) S := same_self 12 (pr (a, b)) S (plain_le (plain_pr _) (by decide))
theorem isint_spec (i : Int) (S : Store) : m__law_is_integer [.int i] S = .ok (.bl true) S := by simp only [m__law_is_integer, x_bnd, k_ok, k_exc, k_stuck, x_giv, x_fail, selM_t, selM_f, selS_t, selS_f, sK_ok, sK_exc, sK_stuck, x_seq, seq_nx, seq_bk, seq_ct, seq_rt, seq_exc, seq_stuck, x_ret, x_retN, x_exp, x_set, x_nil, x_brk, x_cnt, x_tgt, tK_ok, tK_stuck, x_asgK, x_asg, ifK_t, ifK_f, x_if, x_fgK, fK_bk, fK_rt, fK_exc, for_src, x_fpK, fpK_nx, fpK_ct, srcK_nil, srcK_rng, x_for, x_def, defK_rt, defK_nx, defK_exc, slot_some, x_slot, x_c, x_Nil, x_consK, x_cons, x_F, x_m2K, x_m2, x_m1, x_B, x_T, asB_bl, asT_bl, asT_int, asT_non, asT_tup, asT_rol, asT_frz, x_And, x_Or, andK_t, andK_f, orK_t, orK_f, x_Not, x_AndV, x_OrV, x_andVK, x_orVK, x_NotV, x_IfE, ifEK_t, ifEK_f, x_Tup, x_Lst, x_mkF, x_mkT, x_Call, add_ii, sub_ii, neg_i, cmp_ii, eq_ii, eq_bb, eq_ss, ne_ii, ne_ss, is_n, isnot_n, non_n, non_i, non_b, non_s, non_t, non_r, non_o, ix_t, ix_r, ix_f, lst_s, ix_oo, len_oo, srcL_oo, set_oo, setO_l, opt_s, len_t, len_r, len_f, abs_i, int_i, int_b, max_ii, min_ii, gcd_ii, list_f, list_r, list_t, tuple_r, tuple_t, x_It, x_Nm, x_Tp, x_gN, x_gC, x_iE, x_iF, srcL_f, srcL_r, srcT_t, srcS_s, x_Isi, isi_tt, isi_ti, isi_tn, isi_tb, isi_ts, isi_bt, isi_bi, isi_bn, isi_bb, isi_bs, isi_st, isi_si, isi_sn, isi_sb, isi_ss, isi_it, isi_ii, isi_in, isi_ib, isi_is, at0, at1, at2, at3, ix0, ix1, ix2, ix3, whC_t, whC_f, whK_nx, whK_ct, whK_bk, whK_rt, List.map_cons, List.map_nil, List.length_cons, List.length_nil, List.replicate_succ, List.replicate_zero, List.set_cons_zero, List.set_cons_succ, List.cons_append, List.nil_append, List.append_nil, Nat.reduceAdd, Nat.reduceSub, Nat.sub_zero, Nat.sub_self, Nat.zero_add, List.getElem?_cons_zero, List.getElem?_cons_succ, decide_true, decide_false, Bool.not_true, Bool.not_false, List.isEmpty_cons, List.isEmpty_nil, Nat.reduceLeDiff, Nat.reduceSucc, x_Me, x_meK, x_Me0, ty_ss, ty_lo, ty_ll, ty_dd, ty_lr, ap_o, up_l, pop_o, pop_l, asT_o, tru_l, tru_d, ext_o, lsts_r, lsts_t, x_chain, in_ssF, in_ssT, in_t, in_r, in_o, inK_sF, inK_sT, flat_s, flat_i, List.all_cons, List.all_nil, Bool.and_true, Bool.true_and, rev_t, rev_r, sum_r, maxL_r, minL_r, any_r, all_r, inc_ii, x_aug, x_lc, x_lc2, lcEnd_f, lcEnd_t, x_yes, x_Sl, x_oN, x_oS, asI_i, sl_t, sl_r, cut1, js_nil, js_cons, add_or, x_small]
theorem isfr_spec {a b : Int} (h : 0 < b) (g : Nat.gcd a.natAbs b.natAbs = 1) (S : Store) : m__law_is_fraction [.tup [.int a, .int b]] S = .ok (.bl true) S := by
  have z : ((1 : Nat) : Int) = 1 := rfl
  simp only [m__law_is_fraction, x_bnd, k_ok, k_exc, k_stuck, x_giv, x_fail, selM_t, selM_f, selS_t, selS_f, sK_ok, sK_exc, sK_stuck, x_seq, seq_nx, seq_bk, seq_ct, seq_rt, seq_exc, seq_stuck, x_ret, x_retN, x_exp, x_set, x_nil, x_brk, x_cnt, x_tgt, tK_ok, tK_stuck, x_asgK, x_asg, ifK_t, ifK_f, x_if, x_fgK, fK_bk, fK_rt, fK_exc, for_src, x_fpK, fpK_nx, fpK_ct, srcK_nil, srcK_rng, x_for, x_def, defK_rt, defK_nx, defK_exc, slot_some, x_slot, x_c, x_Nil, x_consK, x_cons, x_F, x_m2K, x_m2, x_m1, x_B, x_T, asB_bl, asT_bl, asT_int, asT_non, asT_tup, asT_rol, asT_frz, x_And, x_Or, andK_t, andK_f, orK_t, orK_f, x_Not, x_AndV, x_OrV, x_andVK, x_orVK, x_NotV, x_IfE, ifEK_t, ifEK_f, x_Tup, x_Lst, x_mkF, x_mkT, x_Call, add_ii, sub_ii, neg_i, cmp_ii, eq_ii, eq_bb, eq_ss, ne_ii, ne_ss, is_n, isnot_n, non_n, non_i, non_b, non_s, non_t, non_r, non_o, ix_t, ix_r, ix_f, lst_s, ix_oo, len_oo, srcL_oo, set_oo, setO_l, opt_s, len_t, len_r, len_f, abs_i, int_i, int_b, max_ii, min_ii, gcd_ii, list_f, list_r, list_t, tuple_r, tuple_t, x_It, x_Nm, x_Tp, x_gN, x_gC, x_iE, x_iF, srcL_f, srcL_r, srcT_t, srcS_s, x_Isi, isi_tt, isi_ti, isi_tn, isi_tb, isi_ts, isi_bt, isi_bi, isi_bn, isi_bb, isi_bs, isi_st, isi_si, isi_sn, isi_sb, isi_ss, isi_it, isi_ii, isi_in, isi_ib, isi_is, at0, at1, at2, at3, ix0, ix1, ix2, ix3, whC_t, whC_f, whK_nx, whK_ct, whK_bk, whK_rt, List.map_cons, List.map_nil, List.length_cons, List.length_nil, List.replicate_succ, List.replicate_zero, List.set_cons_zero, List.set_cons_succ, List.cons_append, List.nil_append, List.append_nil, Nat.reduceAdd, Nat.reduceSub, Nat.sub_zero, Nat.sub_self, Nat.zero_add, List.getElem?_cons_zero, List.getElem?_cons_succ, decide_true, decide_false, Bool.not_true, Bool.not_false, List.isEmpty_cons, List.isEmpty_nil, Nat.reduceLeDiff, Nat.reduceSucc, x_Me, x_meK, x_Me0, ty_ss, ty_lo, ty_ll, ty_dd, ty_lr, ap_o, up_l, pop_o, pop_l, asT_o, tru_l, tru_d, ext_o, lsts_r, lsts_t, x_chain, in_ssF, in_ssT, in_t, in_r, in_o, inK_sF, inK_sT, flat_s, flat_i, List.all_cons, List.all_nil, Bool.and_true, Bool.true_and, rev_t, rev_r, sum_r, maxL_r, minL_r, any_r, all_r, inc_ii, x_aug, x_lc, x_lc2, lcEnd_f, lcEnd_t, x_yes, x_Sl, x_oN, x_oS, asI_i, sl_t, sl_r, cut1, js_nil, js_cons, add_or, x_small, x_need, Int.cast_ofNat_Int, isint_spec, h, gcd_spec, g, z]
theorem fr_neg {n d : Int} (h : d ≠ 0) : fr (-n) d = (-(fr n d).1, (fr n d).2) :=
  fr_alone h (fr_pos h) (by rw [Int.natAbs_neg]; exact fr_coprime h) (by rw [Int.neg_mul, Int.neg_mul, fr_cross h])
theorem fr_negd {n d : Int} (h : d ≠ 0) : fr n (-d) = (-(fr n d).1, (fr n d).2) := by
  rw [← fr_neg h]
  exact fr_same (by omega) h (by rw [Int.neg_mul_neg])
theorem fr_neg2 {n d : Int} (h : d ≠ 0) : fr (-n) (-d) = fr n d := fr_same (by omega) h (by rw [Int.neg_mul, Int.mul_neg])
theorem fr_scale {n d f : Int} (h : d ≠ 0) (hf : f ≠ 0) : fr (n * f) (d * f) = fr n d := fr_same (Int.mul_ne_zero h hf) h (by rw [Int.mul_assoc, Int.mul_comm d f])
theorem fr_self {n d : Int} (h : 0 < d) (g : Nat.gcd n.natAbs d.natAbs = 1) : fr n d = (n, d) := fr_alone (by omega) h g rfl
/-! step by step -/
theorem goE {a b : MS} {env e : Env} {S s : Store} {r : SR} (h : a env S = .nx e s) (k : b e s = r) : sSeq a b env S = r := by
  rw [x_seq, h, seq_nx]
  exact k
theorem def_rt {N : Nat} {body : MS} {ds : List D} {S S' : Store} {d : D} {env : Env} (he : ds.map some ++ List.replicate (N - ds.length) none = env) (h : body env S = .rt d S') : mDef N body ds S = .ok d S' := by
  rw [x_def, he, h]
  rfl
theorem go {a b : MS} {env e : Env} {S s : Store} {P : Env → Store → Prop} (h : a env S = .nx e s) (k : ∃ e' s', b e s = .nx e' s' ∧ P e' s') : ∃ e' s', sSeq a b env S = .nx e' s' ∧ P e' s' := by
  rw [x_seq, h, seq_nx]
  exact k
theorem goR {a b : MS} {env e : Env} {S s : Store} {d : D} (h : a env S = .nx e s) (k : ∃ s', b e s = .rt d s') : ∃ s', sSeq a b env S = .rt d s' := by
  rw [x_seq, h, seq_nx]
  exact k
theorem forP_nx {g : MG} {b : MS} {ds : List D} {env e1 e2 : Env} {S S2 : Store} {d : D} (h1 : g d env S = .ok e1 S) (h2 : b e1 S = .nx e2 S2) : forP g b (d :: ds) env S = forP g b ds e2 S2 := by
  rw [fp_cons, h1, tK_ok, x_fpK, h2, fpK_nx]
/-- a loop over range(n), the turn's number in slot t -/
theorem for_range {b : MS} {t n : Nat} {z : Int} (hz : z = n) (P : Nat → Env → Store → Prop) (step : ∀ i env S, i < n → P i env S → ∃ env' S', b (env.set t (some (.int i))) S = .nx env' S' ∧ P (i + 1) env' S') {env : Env} {S : Store} (h0 : P 0 env S) :
    ∃ env' S', forP (gNm t) b ((List.range (z - 0).toNat).map fun (j : Nat) => .int (0 + (j : Int))) env S = .nx env' S' ∧ P n env' S' := by
  subst hz
  refine for_range0 P (fun i env S hi hp => ?_) h0
  obtain ⟨env', S', e, p⟩ := step i env S hi hp
  refine ⟨env', S', fun ds => ?_, p⟩
  rw [x_Nm, tK_ok, x_fpK, e, fpK_nx]
end Py

set_option Elab.async false
set_option linter.all false
set_option maxHeartbeats 2000000
set_option exponentiation.threshold 10000
/-! fractions in the program and in the laws -/
namespace Py
open PySem PySem.Spec PyProof.Rows L2
/-- p is in lowest terms, its numbers below 2 ^ k -/
structure Fr (k : Nat) (p : Int × Int) : Prop where
  pos : 0 < p.2
  cop : Nat.gcd p.1.natAbs p.2.natAbs = 1
  b1 : bits p.1 k
  b2 : bits p.2 k
theorem Fr.of {n d : Int} {k : Nat} (h : d ≠ 0) (bn : bits n k) (bd : bits d k) : Fr k (fr n d) := ⟨fr_pos h, fr_coprime h, fr_bits1 h bn, fr_bits2 h bd⟩
theorem Fr.ne {k : Nat} {p : Int × Int} (h : Fr k p) : p.2 ≠ 0 := by have := h.pos; omega
theorem Fr.self {k : Nat} {p : Int × Int} (h : Fr k p) : fr p.1 p.2 = p := fr_self h.pos h.cop
theorem Fr.neg {k : Nat} {p : Int × Int} (h : Fr k p) : Fr k (-p.1, p.2) := ⟨h.pos, by rw [Int.natAbs_neg]; exact h.cop, h.b1.neg, h.b2⟩
theorem Fr.mono {k m : Nat} {p : Int × Int} (h : Fr k p) (q : k ≤ m) : Fr m p := ⟨h.pos, h.cop, h.b1.mono q, h.b2.mono q⟩
/-- the four on pairs -/
def plusF (x y : Int × Int) : Int × Int := fr (x.1 * y.2 + y.1 * x.2) (x.2 * y.2)
def minusF (x y : Int × Int) : Int × Int := fr (x.1 * y.2 - y.1 * x.2) (x.2 * y.2)
def timesF (x y : Int × Int) : Int × Int := fr (x.1 * y.1) (x.2 * y.2)
def overF (x y : Int × Int) : Int × Int := fr (x.1 * y.2) (x.2 * y.1)
def negF (x : Int × Int) : Int × Int := (-x.1, x.2)
section
variable {k : Nat} {x y : Int × Int}
theorem Fr.den (hx : Fr k x) (hy : Fr k y) : x.2 * y.2 ≠ 0 := Int.mul_ne_zero hx.ne hy.ne
theorem Fr.plus (hx : Fr k x) (hy : Fr k y) : Fr (2 * k + 1) (plusF x y) :=
  .of (hx.den hy) (by have := (hx.b1.mul hy.b2).add (hy.b1.mul hx.b2); exact this.mono (by omega)) ((hx.b2.mul hy.b2).mono (by omega))
theorem Fr.minus (hx : Fr k x) (hy : Fr k y) : Fr (2 * k + 1) (minusF x y) :=
  .of (hx.den hy) (by have := (hx.b1.mul hy.b2).sub (hy.b1.mul hx.b2); exact this.mono (by omega)) ((hx.b2.mul hy.b2).mono (by omega))
theorem Fr.times (hx : Fr k x) (hy : Fr k y) : Fr (2 * k + 1) (timesF x y) := .of (hx.den hy) ((hx.b1.mul hy.b1).mono (by omega)) ((hx.b2.mul hy.b2).mono (by omega))
theorem Fr.over (hx : Fr k x) (hy : Fr k y) (h : y.1 ≠ 0) : Fr (2 * k + 1) (overF x y) := .of (Int.mul_ne_zero hx.ne h) ((hx.b1.mul hy.b2).mono (by omega)) ((hx.b2.mul hy.b1).mono (by omega))
theorem minus_eq : minusF x y = plusF x (negF y) := by
  unfold minusF plusF negF
  congr 1
  show x.1 * y.2 - y.1 * x.2 = x.1 * y.2 + -y.1 * x.2
  rw [Int.neg_mul]
  omega
theorem plus_minus (hx : Fr k x) (hy : Fr k y) : minusF (plusF x y) y = x := by
  have c := fr_cross (n := x.1 * y.2 + y.1 * x.2) (hx.den hy)
  have hp : Fr (2 * k + 1) (plusF x y) := hx.plus hy
  have hn := Int.mul_ne_zero hp.ne hy.ne
  refine fr_alone hn hx.pos hx.cop ?_
  show x.1 * ((plusF x y).2 * y.2) = ((plusF x y).1 * y.2 - y.1 * (plusF x y).2) * x.2
  have c : (plusF x y).1 * (x.2 * y.2) = (x.1 * y.2 + y.1 * x.2) * (plusF x y).2 := c
  grind
theorem times_over (hx : Fr k x) (hy : Fr k y) (h : y.1 ≠ 0) : overF (timesF x y) y = x := by
  have c := fr_cross (n := x.1 * y.1) (hx.den hy)
  have hp : Fr (2 * k + 1) (timesF x y) := hx.times hy
  have hn := Int.mul_ne_zero hp.ne h
  refine fr_alone hn hx.pos hx.cop ?_
  show x.1 * ((timesF x y).2 * y.1) = ((timesF x y).1 * y.2) * x.2
  have c : (timesF x y).1 * (x.2 * y.2) = (x.1 * y.1) * (timesF x y).2 := c
  grind
end
section
variable {a b c d : Int} {k : Nat} {S : Store}
theorem fraction_u {n d : Int} (h : d ≠ 0) (b : bits d 9000) : m_fraction [.int n, .int d] S = .ok (.tup [.int (fr n d).1, .int (fr n d).2]) S := fraction_spec h b (by decide) (by decide) S
theorem lawfraction_u {n d : Int} (h : d ≠ 0) (b : bits d 9000) : m__law_fraction [.int n, .int d] S = .ok (.tup [.int (fr n d).1, .int (fr n d).2]) S := lawfraction_spec h b (by decide) (by decide) S
theorem mulc {i j : Int} (h : bits i 4000) (g : bits j 4000) : CMulW i j := h.cmul g (by decide) (by decide) (by decide)
theorem added_u (hb : b ≠ 0) (hd : d ≠ 0) (ba : bits a 4000) (bb : bits b 4000) (bc : bits c 4000) (bd : bits d 4000) :
    m_added [.tup [.int a, .int b], .tup [.int c, .int d]] S = .ok (.tup [.int (plusF (a, b) (c, d)).1, .int (plusF (a, b) (c, d)).2]) S := by
  have f := fraction_u (S := S) (n := a * d + c * b) (Int.mul_ne_zero hb hd) ((bb.mul bd).mono (by decide))
  simp only [m_added, x_bnd, k_ok, k_exc, k_stuck, x_giv, x_fail, selM_t, selM_f, selS_t, selS_f, sK_ok, sK_exc, sK_stuck, x_seq, seq_nx, seq_bk, seq_ct, seq_rt, seq_exc, seq_stuck, x_ret, x_retN, x_exp, x_set, x_nil, x_brk, x_cnt, x_tgt, tK_ok, tK_stuck, x_asgK, x_asg, ifK_t, ifK_f, x_if, x_fgK, fK_bk, fK_rt, fK_exc, for_src, x_fpK, fpK_nx, fpK_ct, srcK_nil, srcK_rng, x_for, x_def, defK_rt, defK_nx, defK_exc, slot_some, x_slot, x_c, x_Nil, x_consK, x_cons, x_F, x_m2K, x_m2, x_m1, x_B, x_T, asB_bl, asT_bl, asT_int, asT_non, asT_tup, asT_rol, asT_frz, x_And, x_Or, andK_t, andK_f, orK_t, orK_f, x_Not, x_AndV, x_OrV, x_andVK, x_orVK, x_NotV, x_IfE, ifEK_t, ifEK_f, x_Tup, x_Lst, x_mkF, x_mkT, x_Call, add_ii, sub_ii, neg_i, cmp_ii, eq_ii, eq_bb, eq_ss, ne_ii, ne_ss, is_n, isnot_n, non_n, non_i, non_b, non_s, non_t, non_r, non_o, ix_t, ix_r, ix_f, lst_s, ix_oo, len_oo, srcL_oo, set_oo, setO_l, opt_s, len_t, len_r, len_f, abs_i, int_i, int_b, max_ii, min_ii, gcd_ii, list_f, list_r, list_t, tuple_r, tuple_t, x_It, x_Nm, x_Tp, x_gN, x_gC, x_iE, x_iF, srcL_f, srcL_r, srcT_t, srcS_s, x_Isi, isi_tt, isi_ti, isi_tn, isi_tb, isi_ts, isi_bt, isi_bi, isi_bn, isi_bb, isi_bs, isi_st, isi_si, isi_sn, isi_sb, isi_ss, isi_it, isi_ii, isi_in, isi_ib, isi_is, at0, at1, at2, at3, ix0, ix1, ix2, ix3, whC_t, whC_f, whK_nx, whK_ct, whK_bk, whK_rt, List.map_cons, List.map_nil, List.length_cons, List.length_nil, List.replicate_succ, List.replicate_zero, List.set_cons_zero, List.set_cons_succ, List.cons_append, List.nil_append, List.append_nil, Nat.reduceAdd, Nat.reduceSub, Nat.sub_zero, Nat.sub_self, Nat.zero_add, List.getElem?_cons_zero, List.getElem?_cons_succ, decide_true, decide_false, Bool.not_true, Bool.not_false, List.isEmpty_cons, List.isEmpty_nil, Nat.reduceLeDiff, Nat.reduceSucc, x_Me, x_meK, x_Me0, ty_ss, ty_lo, ty_ll, ty_dd, ty_lr, ap_o, up_l, pop_o, pop_l, asT_o, tru_l, tru_d, ext_o, lsts_r, lsts_t, x_chain, in_ssF, in_ssT, in_t, in_r, in_o, inK_sF, inK_sT, flat_s, flat_i, List.all_cons, List.all_nil, Bool.and_true, Bool.true_and, rev_t, rev_r, sum_r, maxL_r, minL_r, any_r, all_r, inc_ii, x_aug, x_lc, x_lc2, lcEnd_f, lcEnd_t, x_yes, x_Sl, x_oN, x_oS, asI_i, sl_t, sl_r, cut1, js_nil, js_cons, add_or, x_small, x_need, mul_ii (mulc ba bd), mul_ii (mulc bc bb), mul_ii (mulc bb bd), f, plusF]
theorem plus_u (hb : b ≠ 0) (hd : d ≠ 0) (ba : bits a 4000) (bb : bits b 4000) (bc : bits c 4000) (bd : bits d 4000) :
    m__law_plus [.tup [.int a, .int b], .tup [.int c, .int d]] S = .ok (.tup [.int (plusF (a, b) (c, d)).1, .int (plusF (a, b) (c, d)).2]) S := by
  have f := lawfraction_u (S := S) (n := a * d + c * b) (Int.mul_ne_zero hb hd) ((bb.mul bd).mono (by decide))
  simp only [m__law_plus, x_bnd, k_ok, k_exc, k_stuck, x_giv, x_fail, selM_t, selM_f, selS_t, selS_f, sK_ok, sK_exc, sK_stuck, x_seq, seq_nx, seq_bk, seq_ct, seq_rt, seq_exc, seq_stuck, x_ret, x_retN, x_exp, x_set, x_nil, x_brk, x_cnt, x_tgt, tK_ok, tK_stuck, x_asgK, x_asg, ifK_t, ifK_f, x_if, x_fgK, fK_bk, fK_rt, fK_exc, for_src, x_fpK, fpK_nx, fpK_ct, srcK_nil, srcK_rng, x_for, x_def, defK_rt, defK_nx, defK_exc, slot_some, x_slot, x_c, x_Nil, x_consK, x_cons, x_F, x_m2K, x_m2, x_m1, x_B, x_T, asB_bl, asT_bl, asT_int, asT_non, asT_tup, asT_rol, asT_frz, x_And, x_Or, andK_t, andK_f, orK_t, orK_f, x_Not, x_AndV, x_OrV, x_andVK, x_orVK, x_NotV, x_IfE, ifEK_t, ifEK_f, x_Tup, x_Lst, x_mkF, x_mkT, x_Call, add_ii, sub_ii, neg_i, cmp_ii, eq_ii, eq_bb, eq_ss, ne_ii, ne_ss, is_n, isnot_n, non_n, non_i, non_b, non_s, non_t, non_r, non_o, ix_t, ix_r, ix_f, lst_s, ix_oo, len_oo, srcL_oo, set_oo, setO_l, opt_s, len_t, len_r, len_f, abs_i, int_i, int_b, max_ii, min_ii, gcd_ii, list_f, list_r, list_t, tuple_r, tuple_t, x_It, x_Nm, x_Tp, x_gN, x_gC, x_iE, x_iF, srcL_f, srcL_r, srcT_t, srcS_s, x_Isi, isi_tt, isi_ti, isi_tn, isi_tb, isi_ts, isi_bt, isi_bi, isi_bn, isi_bb, isi_bs, isi_st, isi_si, isi_sn, isi_sb, isi_ss, isi_it, isi_ii, isi_in, isi_ib, isi_is, at0, at1, at2, at3, ix0, ix1, ix2, ix3, whC_t, whC_f, whK_nx, whK_ct, whK_bk, whK_rt, List.map_cons, List.map_nil, List.length_cons, List.length_nil, List.replicate_succ, List.replicate_zero, List.set_cons_zero, List.set_cons_succ, List.cons_append, List.nil_append, List.append_nil, Nat.reduceAdd, Nat.reduceSub, Nat.sub_zero, Nat.sub_self, Nat.zero_add, List.getElem?_cons_zero, List.getElem?_cons_succ, decide_true, decide_false, Bool.not_true, Bool.not_false, List.isEmpty_cons, List.isEmpty_nil, Nat.reduceLeDiff, Nat.reduceSucc, x_Me, x_meK, x_Me0, ty_ss, ty_lo, ty_ll, ty_dd, ty_lr, ap_o, up_l, pop_o, pop_l, asT_o, tru_l, tru_d, ext_o, lsts_r, lsts_t, x_chain, in_ssF, in_ssT, in_t, in_r, in_o, inK_sF, inK_sT, flat_s, flat_i, List.all_cons, List.all_nil, Bool.and_true, Bool.true_and, rev_t, rev_r, sum_r, maxL_r, minL_r, any_r, all_r, inc_ii, x_aug, x_lc, x_lc2, lcEnd_f, lcEnd_t, x_yes, x_Sl, x_oN, x_oS, asI_i, sl_t, sl_r, cut1, js_nil, js_cons, add_or, x_small, x_need, mul_ii (mulc ba bd), mul_ii (mulc bc bb), mul_ii (mulc bb bd), f, plusF]
theorem minus_u (hb : b ≠ 0) (hd : d ≠ 0) (ba : bits a 4000) (bb : bits b 4000) (bc : bits c 4000) (bd : bits d 4000) :
    m__law_minus [.tup [.int a, .int b], .tup [.int c, .int d]] S = .ok (.tup [.int (minusF (a, b) (c, d)).1, .int (minusF (a, b) (c, d)).2]) S := by
  have f := lawfraction_u (S := S) (n := a * d - c * b) (Int.mul_ne_zero hb hd) ((bb.mul bd).mono (by decide))
  simp only [m__law_minus, x_bnd, k_ok, k_exc, k_stuck, x_giv, x_fail, selM_t, selM_f, selS_t, selS_f, sK_ok, sK_exc, sK_stuck, x_seq, seq_nx, seq_bk, seq_ct, seq_rt, seq_exc, seq_stuck, x_ret, x_retN, x_exp, x_set, x_nil, x_brk, x_cnt, x_tgt, tK_ok, tK_stuck, x_asgK, x_asg, ifK_t, ifK_f, x_if, x_fgK, fK_bk, fK_rt, fK_exc, for_src, x_fpK, fpK_nx, fpK_ct, srcK_nil, srcK_rng, x_for, x_def, defK_rt, defK_nx, defK_exc, slot_some, x_slot, x_c, x_Nil, x_consK, x_cons, x_F, x_m2K, x_m2, x_m1, x_B, x_T, asB_bl, asT_bl, asT_int, asT_non, asT_tup, asT_rol, asT_frz, x_And, x_Or, andK_t, andK_f, orK_t, orK_f, x_Not, x_AndV, x_OrV, x_andVK, x_orVK, x_NotV, x_IfE, ifEK_t, ifEK_f, x_Tup, x_Lst, x_mkF, x_mkT, x_Call, add_ii, sub_ii, neg_i, cmp_ii, eq_ii, eq_bb, eq_ss, ne_ii, ne_ss, is_n, isnot_n, non_n, non_i, non_b, non_s, non_t, non_r, non_o, ix_t, ix_r, ix_f, lst_s, ix_oo, len_oo, srcL_oo, set_oo, setO_l, opt_s, len_t, len_r, len_f, abs_i, int_i, int_b, max_ii, min_ii, gcd_ii, list_f, list_r, list_t, tuple_r, tuple_t, x_It, x_Nm, x_Tp, x_gN, x_gC, x_iE, x_iF, srcL_f, srcL_r, srcT_t, srcS_s, x_Isi, isi_tt, isi_ti, isi_tn, isi_tb, isi_ts, isi_bt, isi_bi, isi_bn, isi_bb, isi_bs, isi_st, isi_si, isi_sn, isi_sb, isi_ss, isi_it, isi_ii, isi_in, isi_ib, isi_is, at0, at1, at2, at3, ix0, ix1, ix2, ix3, whC_t, whC_f, whK_nx, whK_ct, whK_bk, whK_rt, List.map_cons, List.map_nil, List.length_cons, List.length_nil, List.replicate_succ, List.replicate_zero, List.set_cons_zero, List.set_cons_succ, List.cons_append, List.nil_append, List.append_nil, Nat.reduceAdd, Nat.reduceSub, Nat.sub_zero, Nat.sub_self, Nat.zero_add, List.getElem?_cons_zero, List.getElem?_cons_succ, decide_true, decide_false, Bool.not_true, Bool.not_false, List.isEmpty_cons, List.isEmpty_nil, Nat.reduceLeDiff, Nat.reduceSucc, x_Me, x_meK, x_Me0, ty_ss, ty_lo, ty_ll, ty_dd, ty_lr, ap_o, up_l, pop_o, pop_l, asT_o, tru_l, tru_d, ext_o, lsts_r, lsts_t, x_chain, in_ssF, in_ssT, in_t, in_r, in_o, inK_sF, inK_sT, flat_s, flat_i, List.all_cons, List.all_nil, Bool.and_true, Bool.true_and, rev_t, rev_r, sum_r, maxL_r, minL_r, any_r, all_r, inc_ii, x_aug, x_lc, x_lc2, lcEnd_f, lcEnd_t, x_yes, x_Sl, x_oN, x_oS, asI_i, sl_t, sl_r, cut1, js_nil, js_cons, add_or, x_small, x_need, mul_ii (mulc ba bd), mul_ii (mulc bc bb), mul_ii (mulc bb bd), f, minusF]
theorem negated_u : m_negated [.tup [.int a, .int b]] S = .ok (.tup [.int (-a), .int b]) S := by
  simp only [m_negated, x_bnd, k_ok, k_exc, k_stuck, x_giv, x_fail, selM_t, selM_f, selS_t, selS_f, sK_ok, sK_exc, sK_stuck, x_seq, seq_nx, seq_bk, seq_ct, seq_rt, seq_exc, seq_stuck, x_ret, x_retN, x_exp, x_set, x_nil, x_brk, x_cnt, x_tgt, tK_ok, tK_stuck, x_asgK, x_asg, ifK_t, ifK_f, x_if, x_fgK, fK_bk, fK_rt, fK_exc, for_src, x_fpK, fpK_nx, fpK_ct, srcK_nil, srcK_rng, x_for, x_def, defK_rt, defK_nx, defK_exc, slot_some, x_slot, x_c, x_Nil, x_consK, x_cons, x_F, x_m2K, x_m2, x_m1, x_B, x_T, asB_bl, asT_bl, asT_int, asT_non, asT_tup, asT_rol, asT_frz, x_And, x_Or, andK_t, andK_f, orK_t, orK_f, x_Not, x_AndV, x_OrV, x_andVK, x_orVK, x_NotV, x_IfE, ifEK_t, ifEK_f, x_Tup, x_Lst, x_mkF, x_mkT, x_Call, add_ii, sub_ii, neg_i, cmp_ii, eq_ii, eq_bb, eq_ss, ne_ii, ne_ss, is_n, isnot_n, non_n, non_i, non_b, non_s, non_t, non_r, non_o, ix_t, ix_r, ix_f, lst_s, ix_oo, len_oo, srcL_oo, set_oo, setO_l, opt_s, len_t, len_r, len_f, abs_i, int_i, int_b, max_ii, min_ii, gcd_ii, list_f, list_r, list_t, tuple_r, tuple_t, x_It, x_Nm, x_Tp, x_gN, x_gC, x_iE, x_iF, srcL_f, srcL_r, srcT_t, srcS_s, x_Isi, isi_tt, isi_ti, isi_tn, isi_tb, isi_ts, isi_bt, isi_bi, isi_bn, isi_bb, isi_bs, isi_st, isi_si, isi_sn, isi_sb, isi_ss, isi_it, isi_ii, isi_in, isi_ib, isi_is, at0, at1, at2, at3, ix0, ix1, ix2, ix3, whC_t, whC_f, whK_nx, whK_ct, whK_bk, whK_rt, List.map_cons, List.map_nil, List.length_cons, List.length_nil, List.replicate_succ, List.replicate_zero, List.set_cons_zero, List.set_cons_succ, List.cons_append, List.nil_append, List.append_nil, Nat.reduceAdd, Nat.reduceSub, Nat.sub_zero, Nat.sub_self, Nat.zero_add, List.getElem?_cons_zero, List.getElem?_cons_succ, decide_true, decide_false, Bool.not_true, Bool.not_false, List.isEmpty_cons, List.isEmpty_nil, Nat.reduceLeDiff, Nat.reduceSucc, x_Me, x_meK, x_Me0, ty_ss, ty_lo, ty_ll, ty_dd, ty_lr, ap_o, up_l, pop_o, pop_l, asT_o, tru_l, tru_d, ext_o, lsts_r, lsts_t, x_chain, in_ssF, in_ssT, in_t, in_r, in_o, inK_sF, inK_sT, flat_s, flat_i, List.all_cons, List.all_nil, Bool.and_true, Bool.true_and, rev_t, rev_r, sum_r, maxL_r, minL_r, any_r, all_r, inc_ii, x_aug, x_lc, x_lc2, lcEnd_f, lcEnd_t, x_yes, x_Sl, x_oN, x_oS, asI_i, sl_t, sl_r, cut1, js_nil, js_cons, add_or, x_small]
theorem subtracted_u (hb : b ≠ 0) (hd : d ≠ 0) (ba : bits a 4000) (bb : bits b 4000) (bc : bits c 4000) (bd : bits d 4000) :
    m_subtracted [.tup [.int a, .int b], .tup [.int c, .int d]] S = .ok (.tup [.int (minusF (a, b) (c, d)).1, .int (minusF (a, b) (c, d)).2]) S := by
  have f := added_u (S := S) hb hd ba bb bc.neg bd
  rw [minus_eq]
  simp only [m_subtracted, x_bnd, k_ok, k_exc, k_stuck, x_giv, x_fail, selM_t, selM_f, selS_t, selS_f, sK_ok, sK_exc, sK_stuck, x_seq, seq_nx, seq_bk, seq_ct, seq_rt, seq_exc, seq_stuck, x_ret, x_retN, x_exp, x_set, x_nil, x_brk, x_cnt, x_tgt, tK_ok, tK_stuck, x_asgK, x_asg, ifK_t, ifK_f, x_if, x_fgK, fK_bk, fK_rt, fK_exc, for_src, x_fpK, fpK_nx, fpK_ct, srcK_nil, srcK_rng, x_for, x_def, defK_rt, defK_nx, defK_exc, slot_some, x_slot, x_c, x_Nil, x_consK, x_cons, x_F, x_m2K, x_m2, x_m1, x_B, x_T, asB_bl, asT_bl, asT_int, asT_non, asT_tup, asT_rol, asT_frz, x_And, x_Or, andK_t, andK_f, orK_t, orK_f, x_Not, x_AndV, x_OrV, x_andVK, x_orVK, x_NotV, x_IfE, ifEK_t, ifEK_f, x_Tup, x_Lst, x_mkF, x_mkT, x_Call, add_ii, sub_ii, neg_i, cmp_ii, eq_ii, eq_bb, eq_ss, ne_ii, ne_ss, is_n, isnot_n, non_n, non_i, non_b, non_s, non_t, non_r, non_o, ix_t, ix_r, ix_f, lst_s, ix_oo, len_oo, srcL_oo, set_oo, setO_l, opt_s, len_t, len_r, len_f, abs_i, int_i, int_b, max_ii, min_ii, gcd_ii, list_f, list_r, list_t, tuple_r, tuple_t, x_It, x_Nm, x_Tp, x_gN, x_gC, x_iE, x_iF, srcL_f, srcL_r, srcT_t, srcS_s, x_Isi, isi_tt, isi_ti, isi_tn, isi_tb, isi_ts, isi_bt, isi_bi, isi_bn, isi_bb, isi_bs, isi_st, isi_si, isi_sn, isi_sb, isi_ss, isi_it, isi_ii, isi_in, isi_ib, isi_is, at0, at1, at2, at3, ix0, ix1, ix2, ix3, whC_t, whC_f, whK_nx, whK_ct, whK_bk, whK_rt, List.map_cons, List.map_nil, List.length_cons, List.length_nil, List.replicate_succ, List.replicate_zero, List.set_cons_zero, List.set_cons_succ, List.cons_append, List.nil_append, List.append_nil, Nat.reduceAdd, Nat.reduceSub, Nat.sub_zero, Nat.sub_self, Nat.zero_add, List.getElem?_cons_zero, List.getElem?_cons_succ, decide_true, decide_false, Bool.not_true, Bool.not_false, List.isEmpty_cons, List.isEmpty_nil, Nat.reduceLeDiff, Nat.reduceSucc, x_Me, x_meK, x_Me0, ty_ss, ty_lo, ty_ll, ty_dd, ty_lr, ap_o, up_l, pop_o, pop_l, asT_o, tru_l, tru_d, ext_o, lsts_r, lsts_t, x_chain, in_ssF, in_ssT, in_t, in_r, in_o, inK_sF, inK_sT, flat_s, flat_i, List.all_cons, List.all_nil, Bool.and_true, Bool.true_and, rev_t, rev_r, sum_r, maxL_r, minL_r, any_r, all_r, inc_ii, x_aug, x_lc, x_lc2, lcEnd_f, lcEnd_t, x_yes, x_Sl, x_oN, x_oS, asI_i, sl_t, sl_r, cut1, js_nil, js_cons, add_or, x_small, x_need, negated_u, f, negF]
theorem multiplied_u (hb : b ≠ 0) (hd : d ≠ 0) (ba : bits a 4000) (bb : bits b 4000) (bc : bits c 4000) (bd : bits d 4000) :
    m_multiplied [.tup [.int a, .int b], .tup [.int c, .int d]] S = .ok (.tup [.int (timesF (a, b) (c, d)).1, .int (timesF (a, b) (c, d)).2]) S := by
  have f := fraction_u (S := S) (n := a * c) (Int.mul_ne_zero hb hd) ((bb.mul bd).mono (by decide))
  simp only [m_multiplied, x_bnd, k_ok, k_exc, k_stuck, x_giv, x_fail, selM_t, selM_f, selS_t, selS_f, sK_ok, sK_exc, sK_stuck, x_seq, seq_nx, seq_bk, seq_ct, seq_rt, seq_exc, seq_stuck, x_ret, x_retN, x_exp, x_set, x_nil, x_brk, x_cnt, x_tgt, tK_ok, tK_stuck, x_asgK, x_asg, ifK_t, ifK_f, x_if, x_fgK, fK_bk, fK_rt, fK_exc, for_src, x_fpK, fpK_nx, fpK_ct, srcK_nil, srcK_rng, x_for, x_def, defK_rt, defK_nx, defK_exc, slot_some, x_slot, x_c, x_Nil, x_consK, x_cons, x_F, x_m2K, x_m2, x_m1, x_B, x_T, asB_bl, asT_bl, asT_int, asT_non, asT_tup, asT_rol, asT_frz, x_And, x_Or, andK_t, andK_f, orK_t, orK_f, x_Not, x_AndV, x_OrV, x_andVK, x_orVK, x_NotV, x_IfE, ifEK_t, ifEK_f, x_Tup, x_Lst, x_mkF, x_mkT, x_Call, add_ii, sub_ii, neg_i, cmp_ii, eq_ii, eq_bb, eq_ss, ne_ii, ne_ss, is_n, isnot_n, non_n, non_i, non_b, non_s, non_t, non_r, non_o, ix_t, ix_r, ix_f, lst_s, ix_oo, len_oo, srcL_oo, set_oo, setO_l, opt_s, len_t, len_r, len_f, abs_i, int_i, int_b, max_ii, min_ii, gcd_ii, list_f, list_r, list_t, tuple_r, tuple_t, x_It, x_Nm, x_Tp, x_gN, x_gC, x_iE, x_iF, srcL_f, srcL_r, srcT_t, srcS_s, x_Isi, isi_tt, isi_ti, isi_tn, isi_tb, isi_ts, isi_bt, isi_bi, isi_bn, isi_bb, isi_bs, isi_st, isi_si, isi_sn, isi_sb, isi_ss, isi_it, isi_ii, isi_in, isi_ib, isi_is, at0, at1, at2, at3, ix0, ix1, ix2, ix3, whC_t, whC_f, whK_nx, whK_ct, whK_bk, whK_rt, List.map_cons, List.map_nil, List.length_cons, List.length_nil, List.replicate_succ, List.replicate_zero, List.set_cons_zero, List.set_cons_succ, List.cons_append, List.nil_append, List.append_nil, Nat.reduceAdd, Nat.reduceSub, Nat.sub_zero, Nat.sub_self, Nat.zero_add, List.getElem?_cons_zero, List.getElem?_cons_succ, decide_true, decide_false, Bool.not_true, Bool.not_false, List.isEmpty_cons, List.isEmpty_nil, Nat.reduceLeDiff, Nat.reduceSucc, x_Me, x_meK, x_Me0, ty_ss, ty_lo, ty_ll, ty_dd, ty_lr, ap_o, up_l, pop_o, pop_l, asT_o, tru_l, tru_d, ext_o, lsts_r, lsts_t, x_chain, in_ssF, in_ssT, in_t, in_r, in_o, inK_sF, inK_sT, flat_s, flat_i, List.all_cons, List.all_nil, Bool.and_true, Bool.true_and, rev_t, rev_r, sum_r, maxL_r, minL_r, any_r, all_r, inc_ii, x_aug, x_lc, x_lc2, lcEnd_f, lcEnd_t, x_yes, x_Sl, x_oN, x_oS, asI_i, sl_t, sl_r, cut1, js_nil, js_cons, add_or, x_small, x_need, mul_ii (mulc ba bc), mul_ii (mulc bb bd), f, timesF]
theorem times_u (hb : b ≠ 0) (hd : d ≠ 0) (ba : bits a 4000) (bb : bits b 4000) (bc : bits c 4000) (bd : bits d 4000) :
    m__law_times [.tup [.int a, .int b], .tup [.int c, .int d]] S = .ok (.tup [.int (timesF (a, b) (c, d)).1, .int (timesF (a, b) (c, d)).2]) S := by
  have f := lawfraction_u (S := S) (n := a * c) (Int.mul_ne_zero hb hd) ((bb.mul bd).mono (by decide))
  simp only [m__law_times, x_bnd, k_ok, k_exc, k_stuck, x_giv, x_fail, selM_t, selM_f, selS_t, selS_f, sK_ok, sK_exc, sK_stuck, x_seq, seq_nx, seq_bk, seq_ct, seq_rt, seq_exc, seq_stuck, x_ret, x_retN, x_exp, x_set, x_nil, x_brk, x_cnt, x_tgt, tK_ok, tK_stuck, x_asgK, x_asg, ifK_t, ifK_f, x_if, x_fgK, fK_bk, fK_rt, fK_exc, for_src, x_fpK, fpK_nx, fpK_ct, srcK_nil, srcK_rng, x_for, x_def, defK_rt, defK_nx, defK_exc, slot_some, x_slot, x_c, x_Nil, x_consK, x_cons, x_F, x_m2K, x_m2, x_m1, x_B, x_T, asB_bl, asT_bl, asT_int, asT_non, asT_tup, asT_rol, asT_frz, x_And, x_Or, andK_t, andK_f, orK_t, orK_f, x_Not, x_AndV, x_OrV, x_andVK, x_orVK, x_NotV, x_IfE, ifEK_t, ifEK_f, x_Tup, x_Lst, x_mkF, x_mkT, x_Call, add_ii, sub_ii, neg_i, cmp_ii, eq_ii, eq_bb, eq_ss, ne_ii, ne_ss, is_n, isnot_n, non_n, non_i, non_b, non_s, non_t, non_r, non_o, ix_t, ix_r, ix_f, lst_s, ix_oo, len_oo, srcL_oo, set_oo, setO_l, opt_s, len_t, len_r, len_f, abs_i, int_i, int_b, max_ii, min_ii, gcd_ii, list_f, list_r, list_t, tuple_r, tuple_t, x_It, x_Nm, x_Tp, x_gN, x_gC, x_iE, x_iF, srcL_f, srcL_r, srcT_t, srcS_s, x_Isi, isi_tt, isi_ti, isi_tn, isi_tb, isi_ts, isi_bt, isi_bi, isi_bn, isi_bb, isi_bs, isi_st, isi_si, isi_sn, isi_sb, isi_ss, isi_it, isi_ii, isi_in, isi_ib, isi_is, at0, at1, at2, at3, ix0, ix1, ix2, ix3, whC_t, whC_f, whK_nx, whK_ct, whK_bk, whK_rt, List.map_cons, List.map_nil, List.length_cons, List.length_nil, List.replicate_succ, List.replicate_zero, List.set_cons_zero, List.set_cons_succ, List.cons_append, List.nil_append, List.append_nil, Nat.reduceAdd, Nat.reduceSub, Nat.sub_zero, Nat.sub_self, Nat.zero_add, List.getElem?_cons_zero, List.getElem?_cons_succ, decide_true, decide_false, Bool.not_true, Bool.not_false, List.isEmpty_cons, List.isEmpty_nil, Nat.reduceLeDiff, Nat.reduceSucc, x_Me, x_meK, x_Me0, ty_ss, ty_lo, ty_ll, ty_dd, ty_lr, ap_o, up_l, pop_o, pop_l, asT_o, tru_l, tru_d, ext_o, lsts_r, lsts_t, x_chain, in_ssF, in_ssT, in_t, in_r, in_o, inK_sF, inK_sT, flat_s, flat_i, List.all_cons, List.all_nil, Bool.and_true, Bool.true_and, rev_t, rev_r, sum_r, maxL_r, minL_r, any_r, all_r, inc_ii, x_aug, x_lc, x_lc2, lcEnd_f, lcEnd_t, x_yes, x_Sl, x_oN, x_oS, asI_i, sl_t, sl_r, cut1, js_nil, js_cons, add_or, x_small, x_need, mul_ii (mulc ba bc), mul_ii (mulc bb bd), f, timesF]
theorem divided_u (hb : b ≠ 0) (hc : c ≠ 0) (ba : bits a 4000) (bb : bits b 4000) (bc : bits c 4000) (bd : bits d 4000) :
    m_divided [.tup [.int a, .int b], .tup [.int c, .int d]] S = .ok (.tup [.int (overF (a, b) (c, d)).1, .int (overF (a, b) (c, d)).2]) S := by
  have f := fraction_u (S := S) (n := a * d) (Int.mul_ne_zero hb hc) ((bb.mul bc).mono (by decide))
  simp only [m_divided, x_bnd, k_ok, k_exc, k_stuck, x_giv, x_fail, selM_t, selM_f, selS_t, selS_f, sK_ok, sK_exc, sK_stuck, x_seq, seq_nx, seq_bk, seq_ct, seq_rt, seq_exc, seq_stuck, x_ret, x_retN, x_exp, x_set, x_nil, x_brk, x_cnt, x_tgt, tK_ok, tK_stuck, x_asgK, x_asg, ifK_t, ifK_f, x_if, x_fgK, fK_bk, fK_rt, fK_exc, for_src, x_fpK, fpK_nx, fpK_ct, srcK_nil, srcK_rng, x_for, x_def, defK_rt, defK_nx, defK_exc, slot_some, x_slot, x_c, x_Nil, x_consK, x_cons, x_F, x_m2K, x_m2, x_m1, x_B, x_T, asB_bl, asT_bl, asT_int, asT_non, asT_tup, asT_rol, asT_frz, x_And, x_Or, andK_t, andK_f, orK_t, orK_f, x_Not, x_AndV, x_OrV, x_andVK, x_orVK, x_NotV, x_IfE, ifEK_t, ifEK_f, x_Tup, x_Lst, x_mkF, x_mkT, x_Call, add_ii, sub_ii, neg_i, cmp_ii, eq_ii, eq_bb, eq_ss, ne_ii, ne_ss, is_n, isnot_n, non_n, non_i, non_b, non_s, non_t, non_r, non_o, ix_t, ix_r, ix_f, lst_s, ix_oo, len_oo, srcL_oo, set_oo, setO_l, opt_s, len_t, len_r, len_f, abs_i, int_i, int_b, max_ii, min_ii, gcd_ii, list_f, list_r, list_t, tuple_r, tuple_t, x_It, x_Nm, x_Tp, x_gN, x_gC, x_iE, x_iF, srcL_f, srcL_r, srcT_t, srcS_s, x_Isi, isi_tt, isi_ti, isi_tn, isi_tb, isi_ts, isi_bt, isi_bi, isi_bn, isi_bb, isi_bs, isi_st, isi_si, isi_sn, isi_sb, isi_ss, isi_it, isi_ii, isi_in, isi_ib, isi_is, at0, at1, at2, at3, ix0, ix1, ix2, ix3, whC_t, whC_f, whK_nx, whK_ct, whK_bk, whK_rt, List.map_cons, List.map_nil, List.length_cons, List.length_nil, List.replicate_succ, List.replicate_zero, List.set_cons_zero, List.set_cons_succ, List.cons_append, List.nil_append, List.append_nil, Nat.reduceAdd, Nat.reduceSub, Nat.sub_zero, Nat.sub_self, Nat.zero_add, List.getElem?_cons_zero, List.getElem?_cons_succ, decide_true, decide_false, Bool.not_true, Bool.not_false, List.isEmpty_cons, List.isEmpty_nil, Nat.reduceLeDiff, Nat.reduceSucc, x_Me, x_meK, x_Me0, ty_ss, ty_lo, ty_ll, ty_dd, ty_lr, ap_o, up_l, pop_o, pop_l, asT_o, tru_l, tru_d, ext_o, lsts_r, lsts_t, x_chain, in_ssF, in_ssT, in_t, in_r, in_o, inK_sF, inK_sT, flat_s, flat_i, List.all_cons, List.all_nil, Bool.and_true, Bool.true_and, rev_t, rev_r, sum_r, maxL_r, minL_r, any_r, all_r, inc_ii, x_aug, x_lc, x_lc2, lcEnd_f, lcEnd_t, x_yes, x_Sl, x_oN, x_oS, asI_i, sl_t, sl_r, cut1, js_nil, js_cons, add_or, x_small, x_need, mul_ii (mulc ba bd), mul_ii (mulc bb bc), f, overF]
theorem over_u (hb : b ≠ 0) (hc : c ≠ 0) (ba : bits a 4000) (bb : bits b 4000) (bc : bits c 4000) (bd : bits d 4000) :
    m__law_over [.tup [.int a, .int b], .tup [.int c, .int d]] S = .ok (.tup [.int (overF (a, b) (c, d)).1, .int (overF (a, b) (c, d)).2]) S := by
  have f := lawfraction_u (S := S) (n := a * d) (Int.mul_ne_zero hb hc) ((bb.mul bc).mono (by decide))
  simp only [m__law_over, x_bnd, k_ok, k_exc, k_stuck, x_giv, x_fail, selM_t, selM_f, selS_t, selS_f, sK_ok, sK_exc, sK_stuck, x_seq, seq_nx, seq_bk, seq_ct, seq_rt, seq_exc, seq_stuck, x_ret, x_retN, x_exp, x_set, x_nil, x_brk, x_cnt, x_tgt, tK_ok, tK_stuck, x_asgK, x_asg, ifK_t, ifK_f, x_if, x_fgK, fK_bk, fK_rt, fK_exc, for_src, x_fpK, fpK_nx, fpK_ct, srcK_nil, srcK_rng, x_for, x_def, defK_rt, defK_nx, defK_exc, slot_some, x_slot, x_c, x_Nil, x_consK, x_cons, x_F, x_m2K, x_m2, x_m1, x_B, x_T, asB_bl, asT_bl, asT_int, asT_non, asT_tup, asT_rol, asT_frz, x_And, x_Or, andK_t, andK_f, orK_t, orK_f, x_Not, x_AndV, x_OrV, x_andVK, x_orVK, x_NotV, x_IfE, ifEK_t, ifEK_f, x_Tup, x_Lst, x_mkF, x_mkT, x_Call, add_ii, sub_ii, neg_i, cmp_ii, eq_ii, eq_bb, eq_ss, ne_ii, ne_ss, is_n, isnot_n, non_n, non_i, non_b, non_s, non_t, non_r, non_o, ix_t, ix_r, ix_f, lst_s, ix_oo, len_oo, srcL_oo, set_oo, setO_l, opt_s, len_t, len_r, len_f, abs_i, int_i, int_b, max_ii, min_ii, gcd_ii, list_f, list_r, list_t, tuple_r, tuple_t, x_It, x_Nm, x_Tp, x_gN, x_gC, x_iE, x_iF, srcL_f, srcL_r, srcT_t, srcS_s, x_Isi, isi_tt, isi_ti, isi_tn, isi_tb, isi_ts, isi_bt, isi_bi, isi_bn, isi_bb, isi_bs, isi_st, isi_si, isi_sn, isi_sb, isi_ss, isi_it, isi_ii, isi_in, isi_ib, isi_is, at0, at1, at2, at3, ix0, ix1, ix2, ix3, whC_t, whC_f, whK_nx, whK_ct, whK_bk, whK_rt, List.map_cons, List.map_nil, List.length_cons, List.length_nil, List.replicate_succ, List.replicate_zero, List.set_cons_zero, List.set_cons_succ, List.cons_append, List.nil_append, List.append_nil, Nat.reduceAdd, Nat.reduceSub, Nat.sub_zero, Nat.sub_self, Nat.zero_add, List.getElem?_cons_zero, List.getElem?_cons_succ, decide_true, decide_false, Bool.not_true, Bool.not_false, List.isEmpty_cons, List.isEmpty_nil, Nat.reduceLeDiff, Nat.reduceSucc, x_Me, x_meK, x_Me0, ty_ss, ty_lo, ty_ll, ty_dd, ty_lr, ap_o, up_l, pop_o, pop_l, asT_o, tru_l, tru_d, ext_o, lsts_r, lsts_t, x_chain, in_ssF, in_ssT, in_t, in_r, in_o, inK_sF, inK_sT, flat_s, flat_i, List.all_cons, List.all_nil, Bool.and_true, Bool.true_and, rev_t, rev_r, sum_r, maxL_r, minL_r, any_r, all_r, inc_ii, x_aug, x_lc, x_lc2, lcEnd_f, lcEnd_t, x_yes, x_Sl, x_oN, x_oS, asI_i, sl_t, sl_r, cut1, js_nil, js_cons, add_or, x_small, x_need, mul_ii (mulc ba bd), mul_ii (mulc bb bc), f, overF]
end
/-! the drawn fraction -/
theorem lt4 {r : Int} (h0 : 0 ≤ r) (h : r < 4) : r = 0 ∨ r = 1 ∨ r = 2 ∨ r = 3 := by omega
theorem lt2 {r : Int} (h0 : 0 ≤ r) (h : r < 2) : r = 0 ∨ r = 1 := by omega
theorem long_spec {cells : List Int} {c : Nat} {T S : Store} (h : Tape cells c T S) (hc : c < 2 ^ 50) : ∃ p S', m__law_long [.obj 0] S = .ok (.tup [.int p.1, .int p.2]) S' ∧ Tape cells (c + 4) T S' ∧ Fr 400 p := by
  obtain ⟨r, S1, e1, h1, r0, r1⟩ := draw_spec h (by omega) (m := 4) (by decide)
  have r1 : r < 4 := r1
  have p60 : CPow 10 60 := by unfold CPow; decide
  have ct : CMulW (10 ^ Int.toNat 60) (10 ^ Int.toNat 60) := mulc (.of (by decide) (by decide)) (.of (by decide) (by decide))
  obtain ⟨top, t0, t1, et⟩ : ∃ top : Int, 0 < top ∧ top < 2 ^ 399 ∧ sSet 1 (m2 dIx (mLst false (mCons (mC (.int 10)) (mCons (mC (.int 1000)) (mCons (m2 dPow (mC (.int 10)) (mC (.int 60))) (mCons (m2 dMul (m2 dPow (mC (.int 10)) (mC (.int 60))) (m2 dPow (mC (.int 10)) (mC (.int 60)))) mNil))))) (mCall 2 m__law_draw (mCons (mSlot 0) (mCons (mC (.int 4)) mNil))))
      [some (.obj 0), none, none, none] S = .nx [some (.obj 0), some (.int top), none, none] S1 := by
    rcases lt4 r0 r1 with e | e | e | e <;> subst e
    · exact ⟨10, by decide, by decide, by simp only [x_bnd, k_ok, k_exc, k_stuck, x_giv, x_fail, selM_t, selM_f, selS_t, selS_f, sK_ok, sK_exc, sK_stuck, x_seq, seq_nx, seq_bk, seq_ct, seq_rt, seq_exc, seq_stuck, x_ret, x_retN, x_exp, x_set, x_nil, x_brk, x_cnt, x_tgt, tK_ok, tK_stuck, x_asgK, x_asg, ifK_t, ifK_f, x_if, x_fgK, fK_bk, fK_rt, fK_exc, for_src, x_fpK, fpK_nx, fpK_ct, srcK_nil, srcK_rng, x_for, x_def, defK_rt, defK_nx, defK_exc, slot_some, x_slot, x_c, x_Nil, x_consK, x_cons, x_F, x_m2K, x_m2, x_m1, x_B, x_T, asB_bl, asT_bl, asT_int, asT_non, asT_tup, asT_rol, asT_frz, x_And, x_Or, andK_t, andK_f, orK_t, orK_f, x_Not, x_AndV, x_OrV, x_andVK, x_orVK, x_NotV, x_IfE, ifEK_t, ifEK_f, x_Tup, x_Lst, x_mkF, x_mkT, x_Call, add_ii, sub_ii, neg_i, cmp_ii, eq_ii, eq_bb, eq_ss, ne_ii, ne_ss, is_n, isnot_n, non_n, non_i, non_b, non_s, non_t, non_r, non_o, ix_t, ix_r, ix_f, lst_s, ix_oo, len_oo, srcL_oo, set_oo, setO_l, opt_s, len_t, len_r, len_f, abs_i, int_i, int_b, max_ii, min_ii, gcd_ii, list_f, list_r, list_t, tuple_r, tuple_t, x_It, x_Nm, x_Tp, x_gN, x_gC, x_iE, x_iF, srcL_f, srcL_r, srcT_t, srcS_s, x_Isi, isi_tt, isi_ti, isi_tn, isi_tb, isi_ts, isi_bt, isi_bi, isi_bn, isi_bb, isi_bs, isi_st, isi_si, isi_sn, isi_sb, isi_ss, isi_it, isi_ii, isi_in, isi_ib, isi_is, at0, at1, at2, at3, ix0, ix1, ix2, ix3, whC_t, whC_f, whK_nx, whK_ct, whK_bk, whK_rt, List.map_cons, List.map_nil, List.length_cons, List.length_nil, List.replicate_succ, List.replicate_zero, List.set_cons_zero, List.set_cons_succ, List.cons_append, List.nil_append, List.append_nil, Nat.reduceAdd, Nat.reduceSub, Nat.sub_zero, Nat.sub_self, Nat.zero_add, List.getElem?_cons_zero, List.getElem?_cons_succ, decide_true, decide_false, Bool.not_true, Bool.not_false, List.isEmpty_cons, List.isEmpty_nil, Nat.reduceLeDiff, Nat.reduceSucc, x_Me, x_meK, x_Me0, ty_ss, ty_lo, ty_ll, ty_dd, ty_lr, ap_o, up_l, pop_o, pop_l, asT_o, tru_l, tru_d, ext_o, lsts_r, lsts_t, x_chain, in_ssF, in_ssT, in_t, in_r, in_o, inK_sF, inK_sT, flat_s, flat_i, List.all_cons, List.all_nil, Bool.and_true, Bool.true_and, rev_t, rev_r, sum_r, maxL_r, minL_r, any_r, all_r, inc_ii, x_aug, x_lc, x_lc2, lcEnd_f, lcEnd_t, x_yes, x_Sl, x_oN, x_oS, asI_i, sl_t, sl_r, cut1, js_nil, js_cons, add_or, x_small, x_need, pow_ii p60, mul_ii ct, e1]⟩
    · exact ⟨1000, by decide, by decide, by simp only [x_bnd, k_ok, k_exc, k_stuck, x_giv, x_fail, selM_t, selM_f, selS_t, selS_f, sK_ok, sK_exc, sK_stuck, x_seq, seq_nx, seq_bk, seq_ct, seq_rt, seq_exc, seq_stuck, x_ret, x_retN, x_exp, x_set, x_nil, x_brk, x_cnt, x_tgt, tK_ok, tK_stuck, x_asgK, x_asg, ifK_t, ifK_f, x_if, x_fgK, fK_bk, fK_rt, fK_exc, for_src, x_fpK, fpK_nx, fpK_ct, srcK_nil, srcK_rng, x_for, x_def, defK_rt, defK_nx, defK_exc, slot_some, x_slot, x_c, x_Nil, x_consK, x_cons, x_F, x_m2K, x_m2, x_m1, x_B, x_T, asB_bl, asT_bl, asT_int, asT_non, asT_tup, asT_rol, asT_frz, x_And, x_Or, andK_t, andK_f, orK_t, orK_f, x_Not, x_AndV, x_OrV, x_andVK, x_orVK, x_NotV, x_IfE, ifEK_t, ifEK_f, x_Tup, x_Lst, x_mkF, x_mkT, x_Call, add_ii, sub_ii, neg_i, cmp_ii, eq_ii, eq_bb, eq_ss, ne_ii, ne_ss, is_n, isnot_n, non_n, non_i, non_b, non_s, non_t, non_r, non_o, ix_t, ix_r, ix_f, lst_s, ix_oo, len_oo, srcL_oo, set_oo, setO_l, opt_s, len_t, len_r, len_f, abs_i, int_i, int_b, max_ii, min_ii, gcd_ii, list_f, list_r, list_t, tuple_r, tuple_t, x_It, x_Nm, x_Tp, x_gN, x_gC, x_iE, x_iF, srcL_f, srcL_r, srcT_t, srcS_s, x_Isi, isi_tt, isi_ti, isi_tn, isi_tb, isi_ts, isi_bt, isi_bi, isi_bn, isi_bb, isi_bs, isi_st, isi_si, isi_sn, isi_sb, isi_ss, isi_it, isi_ii, isi_in, isi_ib, isi_is, at0, at1, at2, at3, ix0, ix1, ix2, ix3, whC_t, whC_f, whK_nx, whK_ct, whK_bk, whK_rt, List.map_cons, List.map_nil, List.length_cons, List.length_nil, List.replicate_succ, List.replicate_zero, List.set_cons_zero, List.set_cons_succ, List.cons_append, List.nil_append, List.append_nil, Nat.reduceAdd, Nat.reduceSub, Nat.sub_zero, Nat.sub_self, Nat.zero_add, List.getElem?_cons_zero, List.getElem?_cons_succ, decide_true, decide_false, Bool.not_true, Bool.not_false, List.isEmpty_cons, List.isEmpty_nil, Nat.reduceLeDiff, Nat.reduceSucc, x_Me, x_meK, x_Me0, ty_ss, ty_lo, ty_ll, ty_dd, ty_lr, ap_o, up_l, pop_o, pop_l, asT_o, tru_l, tru_d, ext_o, lsts_r, lsts_t, x_chain, in_ssF, in_ssT, in_t, in_r, in_o, inK_sF, inK_sT, flat_s, flat_i, List.all_cons, List.all_nil, Bool.and_true, Bool.true_and, rev_t, rev_r, sum_r, maxL_r, minL_r, any_r, all_r, inc_ii, x_aug, x_lc, x_lc2, lcEnd_f, lcEnd_t, x_yes, x_Sl, x_oN, x_oS, asI_i, sl_t, sl_r, cut1, js_nil, js_cons, add_or, x_small, x_need, pow_ii p60, mul_ii ct, e1]⟩
    · exact ⟨10 ^ Int.toNat 60, by decide, by decide, by simp only [x_bnd, k_ok, k_exc, k_stuck, x_giv, x_fail, selM_t, selM_f, selS_t, selS_f, sK_ok, sK_exc, sK_stuck, x_seq, seq_nx, seq_bk, seq_ct, seq_rt, seq_exc, seq_stuck, x_ret, x_retN, x_exp, x_set, x_nil, x_brk, x_cnt, x_tgt, tK_ok, tK_stuck, x_asgK, x_asg, ifK_t, ifK_f, x_if, x_fgK, fK_bk, fK_rt, fK_exc, for_src, x_fpK, fpK_nx, fpK_ct, srcK_nil, srcK_rng, x_for, x_def, defK_rt, defK_nx, defK_exc, slot_some, x_slot, x_c, x_Nil, x_consK, x_cons, x_F, x_m2K, x_m2, x_m1, x_B, x_T, asB_bl, asT_bl, asT_int, asT_non, asT_tup, asT_rol, asT_frz, x_And, x_Or, andK_t, andK_f, orK_t, orK_f, x_Not, x_AndV, x_OrV, x_andVK, x_orVK, x_NotV, x_IfE, ifEK_t, ifEK_f, x_Tup, x_Lst, x_mkF, x_mkT, x_Call, add_ii, sub_ii, neg_i, cmp_ii, eq_ii, eq_bb, eq_ss, ne_ii, ne_ss, is_n, isnot_n, non_n, non_i, non_b, non_s, non_t, non_r, non_o, ix_t, ix_r, ix_f, lst_s, ix_oo, len_oo, srcL_oo, set_oo, setO_l, opt_s, len_t, len_r, len_f, abs_i, int_i, int_b, max_ii, min_ii, gcd_ii, list_f, list_r, list_t, tuple_r, tuple_t, x_It, x_Nm, x_Tp, x_gN, x_gC, x_iE, x_iF, srcL_f, srcL_r, srcT_t, srcS_s, x_Isi, isi_tt, isi_ti, isi_tn, isi_tb, isi_ts, isi_bt, isi_bi, isi_bn, isi_bb, isi_bs, isi_st, isi_si, isi_sn, isi_sb, isi_ss, isi_it, isi_ii, isi_in, isi_ib, isi_is, at0, at1, at2, at3, ix0, ix1, ix2, ix3, whC_t, whC_f, whK_nx, whK_ct, whK_bk, whK_rt, List.map_cons, List.map_nil, List.length_cons, List.length_nil, List.replicate_succ, List.replicate_zero, List.set_cons_zero, List.set_cons_succ, List.cons_append, List.nil_append, List.append_nil, Nat.reduceAdd, Nat.reduceSub, Nat.sub_zero, Nat.sub_self, Nat.zero_add, List.getElem?_cons_zero, List.getElem?_cons_succ, decide_true, decide_false, Bool.not_true, Bool.not_false, List.isEmpty_cons, List.isEmpty_nil, Nat.reduceLeDiff, Nat.reduceSucc, x_Me, x_meK, x_Me0, ty_ss, ty_lo, ty_ll, ty_dd, ty_lr, ap_o, up_l, pop_o, pop_l, asT_o, tru_l, tru_d, ext_o, lsts_r, lsts_t, x_chain, in_ssF, in_ssT, in_t, in_r, in_o, inK_sF, inK_sT, flat_s, flat_i, List.all_cons, List.all_nil, Bool.and_true, Bool.true_and, rev_t, rev_r, sum_r, maxL_r, minL_r, any_r, all_r, inc_ii, x_aug, x_lc, x_lc2, lcEnd_f, lcEnd_t, x_yes, x_Sl, x_oN, x_oS, asI_i, sl_t, sl_r, cut1, js_nil, js_cons, add_or, x_small, x_need, pow_ii p60, mul_ii ct, e1]⟩
    · exact ⟨10 ^ Int.toNat 60 * 10 ^ Int.toNat 60, by decide, by decide, by simp only [x_bnd, k_ok, k_exc, k_stuck, x_giv, x_fail, selM_t, selM_f, selS_t, selS_f, sK_ok, sK_exc, sK_stuck, x_seq, seq_nx, seq_bk, seq_ct, seq_rt, seq_exc, seq_stuck, x_ret, x_retN, x_exp, x_set, x_nil, x_brk, x_cnt, x_tgt, tK_ok, tK_stuck, x_asgK, x_asg, ifK_t, ifK_f, x_if, x_fgK, fK_bk, fK_rt, fK_exc, for_src, x_fpK, fpK_nx, fpK_ct, srcK_nil, srcK_rng, x_for, x_def, defK_rt, defK_nx, defK_exc, slot_some, x_slot, x_c, x_Nil, x_consK, x_cons, x_F, x_m2K, x_m2, x_m1, x_B, x_T, asB_bl, asT_bl, asT_int, asT_non, asT_tup, asT_rol, asT_frz, x_And, x_Or, andK_t, andK_f, orK_t, orK_f, x_Not, x_AndV, x_OrV, x_andVK, x_orVK, x_NotV, x_IfE, ifEK_t, ifEK_f, x_Tup, x_Lst, x_mkF, x_mkT, x_Call, add_ii, sub_ii, neg_i, cmp_ii, eq_ii, eq_bb, eq_ss, ne_ii, ne_ss, is_n, isnot_n, non_n, non_i, non_b, non_s, non_t, non_r, non_o, ix_t, ix_r, ix_f, lst_s, ix_oo, len_oo, srcL_oo, set_oo, setO_l, opt_s, len_t, len_r, len_f, abs_i, int_i, int_b, max_ii, min_ii, gcd_ii, list_f, list_r, list_t, tuple_r, tuple_t, x_It, x_Nm, x_Tp, x_gN, x_gC, x_iE, x_iF, srcL_f, srcL_r, srcT_t, srcS_s, x_Isi, isi_tt, isi_ti, isi_tn, isi_tb, isi_ts, isi_bt, isi_bi, isi_bn, isi_bb, isi_bs, isi_st, isi_si, isi_sn, isi_sb, isi_ss, isi_it, isi_ii, isi_in, isi_ib, isi_is, at0, at1, at2, at3, ix0, ix1, ix2, ix3, whC_t, whC_f, whK_nx, whK_ct, whK_bk, whK_rt, List.map_cons, List.map_nil, List.length_cons, List.length_nil, List.replicate_succ, List.replicate_zero, List.set_cons_zero, List.set_cons_succ, List.cons_append, List.nil_append, List.append_nil, Nat.reduceAdd, Nat.reduceSub, Nat.sub_zero, Nat.sub_self, Nat.zero_add, List.getElem?_cons_zero, List.getElem?_cons_succ, decide_true, decide_false, Bool.not_true, Bool.not_false, List.isEmpty_cons, List.isEmpty_nil, Nat.reduceLeDiff, Nat.reduceSucc, x_Me, x_meK, x_Me0, ty_ss, ty_lo, ty_ll, ty_dd, ty_lr, ap_o, up_l, pop_o, pop_l, asT_o, tru_l, tru_d, ext_o, lsts_r, lsts_t, x_chain, in_ssF, in_ssT, in_t, in_r, in_o, inK_sF, inK_sT, flat_s, flat_i, List.all_cons, List.all_nil, Bool.and_true, Bool.true_and, rev_t, rev_r, sum_r, maxL_r, minL_r, any_r, all_r, inc_ii, x_aug, x_lc, x_lc2, lcEnd_f, lcEnd_t, x_yes, x_Sl, x_oN, x_oS, asI_i, sl_t, sl_r, cut1, js_nil, js_cons, add_or, x_small, x_need, pow_ii p60, mul_ii ct, e1]⟩
  obtain ⟨n, S2, e2, h2, n1, n2⟩ := great_spec h1 (by omega) t0
  obtain ⟨q, S3, e3, h3, q0, q1⟩ := draw_spec h2 (by omega) (m := 2) (by decide)
  have q1 : q < 2 := q1
  obtain ⟨d0, S4, h4, d1, d2, ed⟩ : ∃ (d0 : Int) (S4 : Store), Tape cells (c + 4) T S4 ∧ -top - 2 < d0 ∧ d0 < top + 2 ∧ sSet 3 (mCall 2 m__law_great (mCons (mSlot 0) (mCons (m2 dIx (mLst false (mCons (mC (.int 2)) (mCons (mSlot 1) mNil))) (mCall 2 m__law_draw (mCons (mSlot 0) (mCons (mC (.int 2)) mNil)))) mNil)))
      [some (.obj 0), some (.int top), some (.int n), none] S2 = .nx [some (.obj 0), some (.int top), some (.int n), some (.int d0)] S4 := by
    rcases lt2 q0 q1 with e | e <;> subst e
    · obtain ⟨d0, S4, e4, h4, d1, d2⟩ := great_spec h3 (by omega) (m := 2) (by decide)
      exact ⟨d0, S4, h4, by omega, by omega, by simp only [x_bnd, k_ok, k_exc, k_stuck, x_giv, x_fail, selM_t, selM_f, selS_t, selS_f, sK_ok, sK_exc, sK_stuck, x_seq, seq_nx, seq_bk, seq_ct, seq_rt, seq_exc, seq_stuck, x_ret, x_retN, x_exp, x_set, x_nil, x_brk, x_cnt, x_tgt, tK_ok, tK_stuck, x_asgK, x_asg, ifK_t, ifK_f, x_if, x_fgK, fK_bk, fK_rt, fK_exc, for_src, x_fpK, fpK_nx, fpK_ct, srcK_nil, srcK_rng, x_for, x_def, defK_rt, defK_nx, defK_exc, slot_some, x_slot, x_c, x_Nil, x_consK, x_cons, x_F, x_m2K, x_m2, x_m1, x_B, x_T, asB_bl, asT_bl, asT_int, asT_non, asT_tup, asT_rol, asT_frz, x_And, x_Or, andK_t, andK_f, orK_t, orK_f, x_Not, x_AndV, x_OrV, x_andVK, x_orVK, x_NotV, x_IfE, ifEK_t, ifEK_f, x_Tup, x_Lst, x_mkF, x_mkT, x_Call, add_ii, sub_ii, neg_i, cmp_ii, eq_ii, eq_bb, eq_ss, ne_ii, ne_ss, is_n, isnot_n, non_n, non_i, non_b, non_s, non_t, non_r, non_o, ix_t, ix_r, ix_f, lst_s, ix_oo, len_oo, srcL_oo, set_oo, setO_l, opt_s, len_t, len_r, len_f, abs_i, int_i, int_b, max_ii, min_ii, gcd_ii, list_f, list_r, list_t, tuple_r, tuple_t, x_It, x_Nm, x_Tp, x_gN, x_gC, x_iE, x_iF, srcL_f, srcL_r, srcT_t, srcS_s, x_Isi, isi_tt, isi_ti, isi_tn, isi_tb, isi_ts, isi_bt, isi_bi, isi_bn, isi_bb, isi_bs, isi_st, isi_si, isi_sn, isi_sb, isi_ss, isi_it, isi_ii, isi_in, isi_ib, isi_is, at0, at1, at2, at3, ix0, ix1, ix2, ix3, whC_t, whC_f, whK_nx, whK_ct, whK_bk, whK_rt, List.map_cons, List.map_nil, List.length_cons, List.length_nil, List.replicate_succ, List.replicate_zero, List.set_cons_zero, List.set_cons_succ, List.cons_append, List.nil_append, List.append_nil, Nat.reduceAdd, Nat.reduceSub, Nat.sub_zero, Nat.sub_self, Nat.zero_add, List.getElem?_cons_zero, List.getElem?_cons_succ, decide_true, decide_false, Bool.not_true, Bool.not_false, List.isEmpty_cons, List.isEmpty_nil, Nat.reduceLeDiff, Nat.reduceSucc, x_Me, x_meK, x_Me0, ty_ss, ty_lo, ty_ll, ty_dd, ty_lr, ap_o, up_l, pop_o, pop_l, asT_o, tru_l, tru_d, ext_o, lsts_r, lsts_t, x_chain, in_ssF, in_ssT, in_t, in_r, in_o, inK_sF, inK_sT, flat_s, flat_i, List.all_cons, List.all_nil, Bool.and_true, Bool.true_and, rev_t, rev_r, sum_r, maxL_r, minL_r, any_r, all_r, inc_ii, x_aug, x_lc, x_lc2, lcEnd_f, lcEnd_t, x_yes, x_Sl, x_oN, x_oS, asI_i, sl_t, sl_r, cut1, js_nil, js_cons, add_or, x_small, x_need, e3, e4]⟩
    · obtain ⟨d0, S4, e4, h4, d1, d2⟩ := great_spec h3 (by omega) t0
      exact ⟨d0, S4, h4, by omega, by omega, by simp only [x_bnd, k_ok, k_exc, k_stuck, x_giv, x_fail, selM_t, selM_f, selS_t, selS_f, sK_ok, sK_exc, sK_stuck, x_seq, seq_nx, seq_bk, seq_ct, seq_rt, seq_exc, seq_stuck, x_ret, x_retN, x_exp, x_set, x_nil, x_brk, x_cnt, x_tgt, tK_ok, tK_stuck, x_asgK, x_asg, ifK_t, ifK_f, x_if, x_fgK, fK_bk, fK_rt, fK_exc, for_src, x_fpK, fpK_nx, fpK_ct, srcK_nil, srcK_rng, x_for, x_def, defK_rt, defK_nx, defK_exc, slot_some, x_slot, x_c, x_Nil, x_consK, x_cons, x_F, x_m2K, x_m2, x_m1, x_B, x_T, asB_bl, asT_bl, asT_int, asT_non, asT_tup, asT_rol, asT_frz, x_And, x_Or, andK_t, andK_f, orK_t, orK_f, x_Not, x_AndV, x_OrV, x_andVK, x_orVK, x_NotV, x_IfE, ifEK_t, ifEK_f, x_Tup, x_Lst, x_mkF, x_mkT, x_Call, add_ii, sub_ii, neg_i, cmp_ii, eq_ii, eq_bb, eq_ss, ne_ii, ne_ss, is_n, isnot_n, non_n, non_i, non_b, non_s, non_t, non_r, non_o, ix_t, ix_r, ix_f, lst_s, ix_oo, len_oo, srcL_oo, set_oo, setO_l, opt_s, len_t, len_r, len_f, abs_i, int_i, int_b, max_ii, min_ii, gcd_ii, list_f, list_r, list_t, tuple_r, tuple_t, x_It, x_Nm, x_Tp, x_gN, x_gC, x_iE, x_iF, srcL_f, srcL_r, srcT_t, srcS_s, x_Isi, isi_tt, isi_ti, isi_tn, isi_tb, isi_ts, isi_bt, isi_bi, isi_bn, isi_bb, isi_bs, isi_st, isi_si, isi_sn, isi_sb, isi_ss, isi_it, isi_ii, isi_in, isi_ib, isi_is, at0, at1, at2, at3, ix0, ix1, ix2, ix3, whC_t, whC_f, whK_nx, whK_ct, whK_bk, whK_rt, List.map_cons, List.map_nil, List.length_cons, List.length_nil, List.replicate_succ, List.replicate_zero, List.set_cons_zero, List.set_cons_succ, List.cons_append, List.nil_append, List.append_nil, Nat.reduceAdd, Nat.reduceSub, Nat.sub_zero, Nat.sub_self, Nat.zero_add, List.getElem?_cons_zero, List.getElem?_cons_succ, decide_true, decide_false, Bool.not_true, Bool.not_false, List.isEmpty_cons, List.isEmpty_nil, Nat.reduceLeDiff, Nat.reduceSucc, x_Me, x_meK, x_Me0, ty_ss, ty_lo, ty_ll, ty_dd, ty_lr, ap_o, up_l, pop_o, pop_l, asT_o, tru_l, tru_d, ext_o, lsts_r, lsts_t, x_chain, in_ssF, in_ssT, in_t, in_r, in_o, inK_sF, inK_sT, flat_s, flat_i, List.all_cons, List.all_nil, Bool.and_true, Bool.true_and, rev_t, rev_r, sum_r, maxL_r, minL_r, any_r, all_r, inc_ii, x_aug, x_lc, x_lc2, lcEnd_f, lcEnd_t, x_yes, x_Sl, x_oN, x_oS, asI_i, sl_t, sl_r, cut1, js_nil, js_cons, add_or, x_small, x_need, e3, e4]⟩
  obtain ⟨d, hd, bd, ei⟩ : ∃ d : Int, d ≠ 0 ∧ bits d 400 ∧ sIf (mB (m2 dEq (mSlot 3) (mC (.int 0)))) (sSet 3 (mC (.int 1))) sNil [some (.obj 0), some (.int top), some (.int n), some (.int d0)] S4 = .nx [some (.obj 0), some (.int top), some (.int n), some (.int d)] S4 := by
    by_cases hd : d0 = 0
    · exact ⟨1, by decide, .of (by decide) (by decide), by simp only [x_bnd, k_ok, k_exc, k_stuck, x_giv, x_fail, selM_t, selM_f, selS_t, selS_f, sK_ok, sK_exc, sK_stuck, x_seq, seq_nx, seq_bk, seq_ct, seq_rt, seq_exc, seq_stuck, x_ret, x_retN, x_exp, x_set, x_nil, x_brk, x_cnt, x_tgt, tK_ok, tK_stuck, x_asgK, x_asg, ifK_t, ifK_f, x_if, x_fgK, fK_bk, fK_rt, fK_exc, for_src, x_fpK, fpK_nx, fpK_ct, srcK_nil, srcK_rng, x_for, x_def, defK_rt, defK_nx, defK_exc, slot_some, x_slot, x_c, x_Nil, x_consK, x_cons, x_F, x_m2K, x_m2, x_m1, x_B, x_T, asB_bl, asT_bl, asT_int, asT_non, asT_tup, asT_rol, asT_frz, x_And, x_Or, andK_t, andK_f, orK_t, orK_f, x_Not, x_AndV, x_OrV, x_andVK, x_orVK, x_NotV, x_IfE, ifEK_t, ifEK_f, x_Tup, x_Lst, x_mkF, x_mkT, x_Call, add_ii, sub_ii, neg_i, cmp_ii, eq_ii, eq_bb, eq_ss, ne_ii, ne_ss, is_n, isnot_n, non_n, non_i, non_b, non_s, non_t, non_r, non_o, ix_t, ix_r, ix_f, lst_s, ix_oo, len_oo, srcL_oo, set_oo, setO_l, opt_s, len_t, len_r, len_f, abs_i, int_i, int_b, max_ii, min_ii, gcd_ii, list_f, list_r, list_t, tuple_r, tuple_t, x_It, x_Nm, x_Tp, x_gN, x_gC, x_iE, x_iF, srcL_f, srcL_r, srcT_t, srcS_s, x_Isi, isi_tt, isi_ti, isi_tn, isi_tb, isi_ts, isi_bt, isi_bi, isi_bn, isi_bb, isi_bs, isi_st, isi_si, isi_sn, isi_sb, isi_ss, isi_it, isi_ii, isi_in, isi_ib, isi_is, at0, at1, at2, at3, ix0, ix1, ix2, ix3, whC_t, whC_f, whK_nx, whK_ct, whK_bk, whK_rt, List.map_cons, List.map_nil, List.length_cons, List.length_nil, List.replicate_succ, List.replicate_zero, List.set_cons_zero, List.set_cons_succ, List.cons_append, List.nil_append, List.append_nil, Nat.reduceAdd, Nat.reduceSub, Nat.sub_zero, Nat.sub_self, Nat.zero_add, List.getElem?_cons_zero, List.getElem?_cons_succ, decide_true, decide_false, Bool.not_true, Bool.not_false, List.isEmpty_cons, List.isEmpty_nil, Nat.reduceLeDiff, Nat.reduceSucc, x_Me, x_meK, x_Me0, ty_ss, ty_lo, ty_ll, ty_dd, ty_lr, ap_o, up_l, pop_o, pop_l, asT_o, tru_l, tru_d, ext_o, lsts_r, lsts_t, x_chain, in_ssF, in_ssT, in_t, in_r, in_o, inK_sF, inK_sT, flat_s, flat_i, List.all_cons, List.all_nil, Bool.and_true, Bool.true_and, rev_t, rev_r, sum_r, maxL_r, minL_r, any_r, all_r, inc_ii, x_aug, x_lc, x_lc2, lcEnd_f, lcEnd_t, x_yes, x_Sl, x_oN, x_oS, asI_i, sl_t, sl_r, cut1, js_nil, js_cons, add_or, hd]⟩
    · exact ⟨d0, hd, .of (by omega) (by omega), by simp only [x_bnd, k_ok, k_exc, k_stuck, x_giv, x_fail, selM_t, selM_f, selS_t, selS_f, sK_ok, sK_exc, sK_stuck, x_seq, seq_nx, seq_bk, seq_ct, seq_rt, seq_exc, seq_stuck, x_ret, x_retN, x_exp, x_set, x_nil, x_brk, x_cnt, x_tgt, tK_ok, tK_stuck, x_asgK, x_asg, ifK_t, ifK_f, x_if, x_fgK, fK_bk, fK_rt, fK_exc, for_src, x_fpK, fpK_nx, fpK_ct, srcK_nil, srcK_rng, x_for, x_def, defK_rt, defK_nx, defK_exc, slot_some, x_slot, x_c, x_Nil, x_consK, x_cons, x_F, x_m2K, x_m2, x_m1, x_B, x_T, asB_bl, asT_bl, asT_int, asT_non, asT_tup, asT_rol, asT_frz, x_And, x_Or, andK_t, andK_f, orK_t, orK_f, x_Not, x_AndV, x_OrV, x_andVK, x_orVK, x_NotV, x_IfE, ifEK_t, ifEK_f, x_Tup, x_Lst, x_mkF, x_mkT, x_Call, add_ii, sub_ii, neg_i, cmp_ii, eq_ii, eq_bb, eq_ss, ne_ii, ne_ss, is_n, isnot_n, non_n, non_i, non_b, non_s, non_t, non_r, non_o, ix_t, ix_r, ix_f, lst_s, ix_oo, len_oo, srcL_oo, set_oo, setO_l, opt_s, len_t, len_r, len_f, abs_i, int_i, int_b, max_ii, min_ii, gcd_ii, list_f, list_r, list_t, tuple_r, tuple_t, x_It, x_Nm, x_Tp, x_gN, x_gC, x_iE, x_iF, srcL_f, srcL_r, srcT_t, srcS_s, x_Isi, isi_tt, isi_ti, isi_tn, isi_tb, isi_ts, isi_bt, isi_bi, isi_bn, isi_bb, isi_bs, isi_st, isi_si, isi_sn, isi_sb, isi_ss, isi_it, isi_ii, isi_in, isi_ib, isi_is, at0, at1, at2, at3, ix0, ix1, ix2, ix3, whC_t, whC_f, whK_nx, whK_ct, whK_bk, whK_rt, List.map_cons, List.map_nil, List.length_cons, List.length_nil, List.replicate_succ, List.replicate_zero, List.set_cons_zero, List.set_cons_succ, List.cons_append, List.nil_append, List.append_nil, Nat.reduceAdd, Nat.reduceSub, Nat.sub_zero, Nat.sub_self, Nat.zero_add, List.getElem?_cons_zero, List.getElem?_cons_succ, decide_true, decide_false, Bool.not_true, Bool.not_false, List.isEmpty_cons, List.isEmpty_nil, Nat.reduceLeDiff, Nat.reduceSucc, x_Me, x_meK, x_Me0, ty_ss, ty_lo, ty_ll, ty_dd, ty_lr, ap_o, up_l, pop_o, pop_l, asT_o, tru_l, tru_d, ext_o, lsts_r, lsts_t, x_chain, in_ssF, in_ssT, in_t, in_r, in_o, inK_sF, inK_sT, flat_s, flat_i, List.all_cons, List.all_nil, Bool.and_true, Bool.true_and, rev_t, rev_r, sum_r, maxL_r, minL_r, any_r, all_r, inc_ii, x_aug, x_lc, x_lc2, lcEnd_f, lcEnd_t, x_yes, x_Sl, x_oN, x_oS, asI_i, sl_t, sl_r, cut1, js_nil, js_cons, add_or, hd]⟩
  have bn : bits n 400 := .of (by omega) (by omega)
  refine ⟨fr n d, S4, ?_, h4, .of hd bn bd⟩
  have f := lawfraction_u (S := S4) (n := n) hd (bd.mono (by decide))
  unfold m__law_long
  refine def_rt (env := [some (.obj 0), none, none, none]) rfl (goE et (goE (e := [some (.obj 0), some (.int top), some (.int n), none]) (s := S2) (by simp only [x_bnd, k_ok, k_exc, k_stuck, x_giv, x_fail, selM_t, selM_f, selS_t, selS_f, sK_ok, sK_exc, sK_stuck, x_seq, seq_nx, seq_bk, seq_ct, seq_rt, seq_exc, seq_stuck, x_ret, x_retN, x_exp, x_set, x_nil, x_brk, x_cnt, x_tgt, tK_ok, tK_stuck, x_asgK, x_asg, ifK_t, ifK_f, x_if, x_fgK, fK_bk, fK_rt, fK_exc, for_src, x_fpK, fpK_nx, fpK_ct, srcK_nil, srcK_rng, x_for, x_def, defK_rt, defK_nx, defK_exc, slot_some, x_slot, x_c, x_Nil, x_consK, x_cons, x_F, x_m2K, x_m2, x_m1, x_B, x_T, asB_bl, asT_bl, asT_int, asT_non, asT_tup, asT_rol, asT_frz, x_And, x_Or, andK_t, andK_f, orK_t, orK_f, x_Not, x_AndV, x_OrV, x_andVK, x_orVK, x_NotV, x_IfE, ifEK_t, ifEK_f, x_Tup, x_Lst, x_mkF, x_mkT, x_Call, add_ii, sub_ii, neg_i, cmp_ii, eq_ii, eq_bb, eq_ss, ne_ii, ne_ss, is_n, isnot_n, non_n, non_i, non_b, non_s, non_t, non_r, non_o, ix_t, ix_r, ix_f, lst_s, ix_oo, len_oo, srcL_oo, set_oo, setO_l, opt_s, len_t, len_r, len_f, abs_i, int_i, int_b, max_ii, min_ii, gcd_ii, list_f, list_r, list_t, tuple_r, tuple_t, x_It, x_Nm, x_Tp, x_gN, x_gC, x_iE, x_iF, srcL_f, srcL_r, srcT_t, srcS_s, x_Isi, isi_tt, isi_ti, isi_tn, isi_tb, isi_ts, isi_bt, isi_bi, isi_bn, isi_bb, isi_bs, isi_st, isi_si, isi_sn, isi_sb, isi_ss, isi_it, isi_ii, isi_in, isi_ib, isi_is, at0, at1, at2, at3, ix0, ix1, ix2, ix3, whC_t, whC_f, whK_nx, whK_ct, whK_bk, whK_rt, List.map_cons, List.map_nil, List.length_cons, List.length_nil, List.replicate_succ, List.replicate_zero, List.set_cons_zero, List.set_cons_succ, List.cons_append, List.nil_append, List.append_nil, Nat.reduceAdd, Nat.reduceSub, Nat.sub_zero, Nat.sub_self, Nat.zero_add, List.getElem?_cons_zero, List.getElem?_cons_succ, decide_true, decide_false, Bool.not_true, Bool.not_false, List.isEmpty_cons, List.isEmpty_nil, Nat.reduceLeDiff, Nat.reduceSucc, x_Me, x_meK, x_Me0, ty_ss, ty_lo, ty_ll, ty_dd, ty_lr, ap_o, up_l, pop_o, pop_l, asT_o, tru_l, tru_d, ext_o, lsts_r, lsts_t, x_chain, in_ssF, in_ssT, in_t, in_r, in_o, inK_sF, inK_sT, flat_s, flat_i, List.all_cons, List.all_nil, Bool.and_true, Bool.true_and, rev_t, rev_r, sum_r, maxL_r, minL_r, any_r, all_r, inc_ii, x_aug, x_lc, x_lc2, lcEnd_f, lcEnd_t, x_yes, x_Sl, x_oN, x_oS, asI_i, sl_t, sl_r, cut1, js_nil, js_cons, add_or, x_need, e2]) (goE ed (goE ei ?_))))
  simp only [x_bnd, k_ok, k_exc, k_stuck, x_giv, x_fail, selM_t, selM_f, selS_t, selS_f, sK_ok, sK_exc, sK_stuck, x_seq, seq_nx, seq_bk, seq_ct, seq_rt, seq_exc, seq_stuck, x_ret, x_retN, x_exp, x_set, x_nil, x_brk, x_cnt, x_tgt, tK_ok, tK_stuck, x_asgK, x_asg, ifK_t, ifK_f, x_if, x_fgK, fK_bk, fK_rt, fK_exc, for_src, x_fpK, fpK_nx, fpK_ct, srcK_nil, srcK_rng, x_for, x_def, defK_rt, defK_nx, defK_exc, slot_some, x_slot, x_c, x_Nil, x_consK, x_cons, x_F, x_m2K, x_m2, x_m1, x_B, x_T, asB_bl, asT_bl, asT_int, asT_non, asT_tup, asT_rol, asT_frz, x_And, x_Or, andK_t, andK_f, orK_t, orK_f, x_Not, x_AndV, x_OrV, x_andVK, x_orVK, x_NotV, x_IfE, ifEK_t, ifEK_f, x_Tup, x_Lst, x_mkF, x_mkT, x_Call, add_ii, sub_ii, neg_i, cmp_ii, eq_ii, eq_bb, eq_ss, ne_ii, ne_ss, is_n, isnot_n, non_n, non_i, non_b, non_s, non_t, non_r, non_o, ix_t, ix_r, ix_f, lst_s, ix_oo, len_oo, srcL_oo, set_oo, setO_l, opt_s, len_t, len_r, len_f, abs_i, int_i, int_b, max_ii, min_ii, gcd_ii, list_f, list_r, list_t, tuple_r, tuple_t, x_It, x_Nm, x_Tp, x_gN, x_gC, x_iE, x_iF, srcL_f, srcL_r, srcT_t, srcS_s, x_Isi, isi_tt, isi_ti, isi_tn, isi_tb, isi_ts, isi_bt, isi_bi, isi_bn, isi_bb, isi_bs, isi_st, isi_si, isi_sn, isi_sb, isi_ss, isi_it, isi_ii, isi_in, isi_ib, isi_is, at0, at1, at2, at3, ix0, ix1, ix2, ix3, whC_t, whC_f, whK_nx, whK_ct, whK_bk, whK_rt, List.map_cons, List.map_nil, List.length_cons, List.length_nil, List.replicate_succ, List.replicate_zero, List.set_cons_zero, List.set_cons_succ, List.cons_append, List.nil_append, List.append_nil, Nat.reduceAdd, Nat.reduceSub, Nat.sub_zero, Nat.sub_self, Nat.zero_add, List.getElem?_cons_zero, List.getElem?_cons_succ, decide_true, decide_false, Bool.not_true, Bool.not_false, List.isEmpty_cons, List.isEmpty_nil, Nat.reduceLeDiff, Nat.reduceSucc, x_Me, x_meK, x_Me0, ty_ss, ty_lo, ty_ll, ty_dd, ty_lr, ap_o, up_l, pop_o, pop_l, asT_o, tru_l, tru_d, ext_o, lsts_r, lsts_t, x_chain, in_ssF, in_ssT, in_t, in_r, in_o, inK_sF, inK_sT, flat_s, flat_i, List.all_cons, List.all_nil, Bool.and_true, Bool.true_and, rev_t, rev_r, sum_r, maxL_r, minL_r, any_r, all_r, inc_ii, x_aug, x_lc, x_lc2, lcEnd_f, lcEnd_t, x_yes, x_Sl, x_oN, x_oS, asI_i, sl_t, sl_r, cut1, js_nil, js_cons, add_or, x_small, x_need, f]
end Py

set_option Elab.async false
set_option linter.all false
set_option maxHeartbeats 2000000
set_option exponentiation.threshold 10000
/-! texts of numbers, drawn items, the tape beside other things -/
namespace Py
open PySem PySem.Spec PyProof.Rows L2
theorem strlen_nat (n : Nat) : (PySem.Str.ofString (toString (n : Int))).length = (Nat.toDigits 10 n).length := by
  rw [PySem.Str.ofString_eq_toList]
  show ((String.toList (Nat.repr n)).map Char.toNat).toArray.size = _
  simp [Nat.repr]
theorem strlen_le {n k : Nat} (h : n < 10 ^ k) (hk : 0 < k) : (PySem.Str.ofString (toString (n : Int))).length ≤ k := by
  rw [strlen_nat]
  exact (Nat.length_toDigits_le_iff (by decide) hk).mpr h
theorem log_lt {i : Int} {n : Nat} (h : bits i n) (h0 : 0 < n) (h1 : n ≤ 1920) : i.natAbs.log2 < 1920 := Nat.lt_of_lt_of_le (PySem.Flt.log2_lt_of h0 h) h1
theorem str_u {i : Int} {S : Store} (h : bits i 900) : gStr [.int i] S = .ok (.str (PySem.Str.ofString (toString i))) S := str_i (log_lt h (by decide) (by decide))
theorem strlen_u {i : Int} {S : Store} (h0 : 0 ≤ i) (h : bits i 900) : gLen [.str (PySem.Str.ofString (toString i))] S = .ok (.int (PySem.Str.ofString (toString i)).length) S := by
  refine len_s (small_lit ?_)
  have e : i = ((i.natAbs : Nat) : Int) := by omega
  have z : i.natAbs < 10 ^ 300 := Nat.lt_of_lt_of_le h (by decide)
  have := strlen_le z (by decide)
  rw [← e] at this
  omega
/-- one drawn of a row -/
theorem pick_spec {cells : List Int} {c : Nat} {T S : Store} (h : Tape cells c T S) (hc : c < 2 ^ 60) {ds : List D} (h0 : 0 < ds.length) (hl : ds.length < 2 ^ 60) :
    ∃ (i : Nat) (_ : i < ds.length) (S' : Store), m__law_pick [.obj 0, .rol ds] S = .ok ds[i] S' ∧ Tape cells (c + 1) T S' := by
  obtain ⟨r, S1, e1, h1, r0, r1⟩ := draw_spec h hc (m := (ds.length : Int)) (by omega)
  rw [if_neg (by omega)] at r1
  obtain ⟨i, rfl⟩ : ∃ i : Nat, r = (i : Int) := ⟨r.toNat, by omega⟩
  have hi : i < ds.length := by omega
  refine ⟨i, hi, S1, ?_, h1⟩
  simp only [m__law_pick, x_bnd, k_ok, k_exc, k_stuck, x_giv, x_fail, selM_t, selM_f, selS_t, selS_f, sK_ok, sK_exc, sK_stuck, x_seq, seq_nx, seq_bk, seq_ct, seq_rt, seq_exc, seq_stuck, x_ret, x_retN, x_exp, x_set, x_nil, x_brk, x_cnt, x_tgt, tK_ok, tK_stuck, x_asgK, x_asg, ifK_t, ifK_f, x_if, x_fgK, fK_bk, fK_rt, fK_exc, for_src, x_fpK, fpK_nx, fpK_ct, srcK_nil, srcK_rng, x_for, x_def, defK_rt, defK_nx, defK_exc, slot_some, x_slot, x_c, x_Nil, x_consK, x_cons, x_F, x_m2K, x_m2, x_m1, x_B, x_T, asB_bl, asT_bl, asT_int, asT_non, asT_tup, asT_rol, asT_frz, x_And, x_Or, andK_t, andK_f, orK_t, orK_f, x_Not, x_AndV, x_OrV, x_andVK, x_orVK, x_NotV, x_IfE, ifEK_t, ifEK_f, x_Tup, x_Lst, x_mkF, x_mkT, x_Call, add_ii, sub_ii, neg_i, cmp_ii, eq_ii, eq_bb, eq_ss, ne_ii, ne_ss, is_n, isnot_n, non_n, non_i, non_b, non_s, non_t, non_r, non_o, ix_t, ix_r, ix_f, lst_s, ix_oo, len_oo, srcL_oo, set_oo, setO_l, opt_s, len_t, len_r, len_f, abs_i, int_i, int_b, max_ii, min_ii, gcd_ii, list_f, list_r, list_t, tuple_r, tuple_t, x_It, x_Nm, x_Tp, x_gN, x_gC, x_iE, x_iF, srcL_f, srcL_r, srcT_t, srcS_s, x_Isi, isi_tt, isi_ti, isi_tn, isi_tb, isi_ts, isi_bt, isi_bi, isi_bn, isi_bb, isi_bs, isi_st, isi_si, isi_sn, isi_sb, isi_ss, isi_it, isi_ii, isi_in, isi_ib, isi_is, at0, at1, at2, at3, ix0, ix1, ix2, ix3, whC_t, whC_f, whK_nx, whK_ct, whK_bk, whK_rt, List.map_cons, List.map_nil, List.length_cons, List.length_nil, List.replicate_succ, List.replicate_zero, List.set_cons_zero, List.set_cons_succ, List.cons_append, List.nil_append, List.append_nil, Nat.reduceAdd, Nat.reduceSub, Nat.sub_zero, Nat.sub_self, Nat.zero_add, List.getElem?_cons_zero, List.getElem?_cons_succ, decide_true, decide_false, Bool.not_true, Bool.not_false, List.isEmpty_cons, List.isEmpty_nil, Nat.reduceLeDiff, Nat.reduceSucc, x_Me, x_meK, x_Me0, ty_ss, ty_lo, ty_ll, ty_dd, ty_lr, ap_o, up_l, pop_o, pop_l, asT_o, tru_l, tru_d, ext_o, lsts_r, lsts_t, x_chain, in_ssF, in_ssT, in_t, in_r, in_o, inK_sF, inK_sT, flat_s, flat_i, List.all_cons, List.all_nil, Bool.and_true, Bool.true_and, rev_t, rev_r, sum_r, maxL_r, minL_r, any_r, all_r, inc_ii, x_aug, x_lc, x_lc2, lcEnd_f, lcEnd_t, x_yes, x_Sl, x_oN, x_oS, asI_i, sl_t, sl_r, cut1, js_nil, js_cons, add_or, x_small, x_need, e1, at_nat hi]
theorem Tape.len {cells : List Int} {c : Nat} {T S : Store} (h : Tape cells c T S) : S.length = T.length + 1 := by
  obtain ⟨p, b, s, e, _⟩ := h.ex
  rw [e]
  rfl
theorem Tape.snoc {cells : List Int} {c : Nat} {T S : Store} (h : Tape cells c T S) (o : Ob) : Tape cells c (T ++ [o]) (S ++ [o]) := by
  obtain ⟨p, b, s, e, q⟩ := h.ex
  exact ⟨p, b, s, by rw [e]; rfl, q⟩
theorem Tape.get {cells : List Int} {c : Nat} {T S : Store} (h : Tape cells c T S) (n : Nat) : S[n + 1]? = T[n]? := by
  obtain ⟨p, b, s, e, _⟩ := h.ex
  rw [e]
  rfl
theorem Tape.set {cells : List Int} {c : Nat} {T S : Store} (h : Tape cells c T S) (n : Nat) (o : Ob) : Tape cells c (T.set n o) (S.set (n + 1) o) := by
  obtain ⟨p, b, s, e, q⟩ := h.ex
  exact ⟨p, b, s, by rw [e]; rfl, q⟩
/-! order -/
def cmpF (x y : Int × Int) : Int := if x.1 * y.2 < y.1 * x.2 then -1 else if y.1 * x.2 < x.1 * y.2 then 1 else 0
theorem minus_sign {k : Nat} {x y : Int × Int} (hx : Fr k x) (hy : Fr k y) : ((minusF x y).1 < 0 ↔ x.1 * y.2 < y.1 * x.2) ∧ (0 < (minusF x y).1 ↔ y.1 * x.2 < x.1 * y.2) := by
  have c : (minusF x y).1 * (x.2 * y.2) = (x.1 * y.2 - y.1 * x.2) * (minusF x y).2 := fr_cross (n := x.1 * y.2 - y.1 * x.2) (hx.den hy)
  have p1 : 0 < x.2 * y.2 := Int.mul_pos hx.pos hy.pos
  have p2 : 0 < (minusF x y).2 := (hx.minus hy).pos
  have key : ∀ {u v p q : Int}, 0 < p → 0 < q → u * p = v * q → (u < 0 ↔ v < 0) := fun {u v p q} hp hq e => by
    constructor
    · intro h
      have := Int.mul_neg_of_neg_of_pos h hp
      apply Decidable.byContradiction
      intro n
      have := Int.mul_nonneg (show 0 ≤ v by omega) (Int.le_of_lt hq)
      omega
    · intro h
      have := Int.mul_neg_of_neg_of_pos h hq
      apply Decidable.byContradiction
      intro n
      have := Int.mul_nonneg (show 0 ≤ u by omega) (Int.le_of_lt hp)
      omega
  constructor
  · rw [key p1 p2 c]; omega
  · have c' : -(minusF x y).1 * (x.2 * y.2) = -(x.1 * y.2 - y.1 * x.2) * (minusF x y).2 := by rw [Int.neg_mul, c, Int.neg_mul]
    have := key p1 p2 c'
    omega
section
variable {a b c d : Int} {k : Nat} {S : Store}
theorem compared_u (hx : Fr 900 (a, b)) (hy : Fr 900 (c, d)) : m_compared [.tup [.int a, .int b], .tup [.int c, .int d]] S = .ok (.int (cmpF (a, b) (c, d))) S := by
  have f := subtracted_u (S := S) hx.ne hy.ne (hx.b1.mono (by decide)) (hx.b2.mono (by decide)) (hy.b1.mono (by decide)) (hy.b2.mono (by decide))
  obtain ⟨s1, s2⟩ := minus_sign hx hy
  unfold cmpF
  by_cases h1 : (minusF (a, b) (c, d)).1 < 0
  · simp only [m_compared, x_bnd, k_ok, k_exc, k_stuck, x_giv, x_fail, selM_t, selM_f, selS_t, selS_f, sK_ok, sK_exc, sK_stuck, x_seq, seq_nx, seq_bk, seq_ct, seq_rt, seq_exc, seq_stuck, x_ret, x_retN, x_exp, x_set, x_nil, x_brk, x_cnt, x_tgt, tK_ok, tK_stuck, x_asgK, x_asg, ifK_t, ifK_f, x_if, x_fgK, fK_bk, fK_rt, fK_exc, for_src, x_fpK, fpK_nx, fpK_ct, srcK_nil, srcK_rng, x_for, x_def, defK_rt, defK_nx, defK_exc, slot_some, x_slot, x_c, x_Nil, x_consK, x_cons, x_F, x_m2K, x_m2, x_m1, x_B, x_T, asB_bl, asT_bl, asT_int, asT_non, asT_tup, asT_rol, asT_frz, x_And, x_Or, andK_t, andK_f, orK_t, orK_f, x_Not, x_AndV, x_OrV, x_andVK, x_orVK, x_NotV, x_IfE, ifEK_t, ifEK_f, x_Tup, x_Lst, x_mkF, x_mkT, x_Call, add_ii, sub_ii, neg_i, cmp_ii, eq_ii, eq_bb, eq_ss, ne_ii, ne_ss, is_n, isnot_n, non_n, non_i, non_b, non_s, non_t, non_r, non_o, ix_t, ix_r, ix_f, lst_s, ix_oo, len_oo, srcL_oo, set_oo, setO_l, opt_s, len_t, len_r, len_f, abs_i, int_i, int_b, max_ii, min_ii, gcd_ii, list_f, list_r, list_t, tuple_r, tuple_t, x_It, x_Nm, x_Tp, x_gN, x_gC, x_iE, x_iF, srcL_f, srcL_r, srcT_t, srcS_s, x_Isi, isi_tt, isi_ti, isi_tn, isi_tb, isi_ts, isi_bt, isi_bi, isi_bn, isi_bb, isi_bs, isi_st, isi_si, isi_sn, isi_sb, isi_ss, isi_it, isi_ii, isi_in, isi_ib, isi_is, at0, at1, at2, at3, ix0, ix1, ix2, ix3, whC_t, whC_f, whK_nx, whK_ct, whK_bk, whK_rt, List.map_cons, List.map_nil, List.length_cons, List.length_nil, List.replicate_succ, List.replicate_zero, List.set_cons_zero, List.set_cons_succ, List.cons_append, List.nil_append, List.append_nil, Nat.reduceAdd, Nat.reduceSub, Nat.sub_zero, Nat.sub_self, Nat.zero_add, List.getElem?_cons_zero, List.getElem?_cons_succ, decide_true, decide_false, Bool.not_true, Bool.not_false, List.isEmpty_cons, List.isEmpty_nil, Nat.reduceLeDiff, Nat.reduceSucc, x_Me, x_meK, x_Me0, ty_ss, ty_lo, ty_ll, ty_dd, ty_lr, ap_o, up_l, pop_o, pop_l, asT_o, tru_l, tru_d, ext_o, lsts_r, lsts_t, x_chain, in_ssF, in_ssT, in_t, in_r, in_o, inK_sF, inK_sT, flat_s, flat_i, List.all_cons, List.all_nil, Bool.and_true, Bool.true_and, rev_t, rev_r, sum_r, maxL_r, minL_r, any_r, all_r, inc_ii, x_aug, x_lc, x_lc2, lcEnd_f, lcEnd_t, x_yes, x_Sl, x_oN, x_oS, asI_i, sl_t, sl_r, cut1, js_nil, js_cons, add_or, x_small, x_need, f, h1, s1.mp h1, if_true]
  · have n1 : ¬ a * d < c * b := fun z => h1 (s1.mpr z)
    by_cases h2 : 0 < (minusF (a, b) (c, d)).1
    · simp only [m_compared, x_bnd, k_ok, k_exc, k_stuck, x_giv, x_fail, selM_t, selM_f, selS_t, selS_f, sK_ok, sK_exc, sK_stuck, x_seq, seq_nx, seq_bk, seq_ct, seq_rt, seq_exc, seq_stuck, x_ret, x_retN, x_exp, x_set, x_nil, x_brk, x_cnt, x_tgt, tK_ok, tK_stuck, x_asgK, x_asg, ifK_t, ifK_f, x_if, x_fgK, fK_bk, fK_rt, fK_exc, for_src, x_fpK, fpK_nx, fpK_ct, srcK_nil, srcK_rng, x_for, x_def, defK_rt, defK_nx, defK_exc, slot_some, x_slot, x_c, x_Nil, x_consK, x_cons, x_F, x_m2K, x_m2, x_m1, x_B, x_T, asB_bl, asT_bl, asT_int, asT_non, asT_tup, asT_rol, asT_frz, x_And, x_Or, andK_t, andK_f, orK_t, orK_f, x_Not, x_AndV, x_OrV, x_andVK, x_orVK, x_NotV, x_IfE, ifEK_t, ifEK_f, x_Tup, x_Lst, x_mkF, x_mkT, x_Call, add_ii, sub_ii, neg_i, cmp_ii, eq_ii, eq_bb, eq_ss, ne_ii, ne_ss, is_n, isnot_n, non_n, non_i, non_b, non_s, non_t, non_r, non_o, ix_t, ix_r, ix_f, lst_s, ix_oo, len_oo, srcL_oo, set_oo, setO_l, opt_s, len_t, len_r, len_f, abs_i, int_i, int_b, max_ii, min_ii, gcd_ii, list_f, list_r, list_t, tuple_r, tuple_t, x_It, x_Nm, x_Tp, x_gN, x_gC, x_iE, x_iF, srcL_f, srcL_r, srcT_t, srcS_s, x_Isi, isi_tt, isi_ti, isi_tn, isi_tb, isi_ts, isi_bt, isi_bi, isi_bn, isi_bb, isi_bs, isi_st, isi_si, isi_sn, isi_sb, isi_ss, isi_it, isi_ii, isi_in, isi_ib, isi_is, at0, at1, at2, at3, ix0, ix1, ix2, ix3, whC_t, whC_f, whK_nx, whK_ct, whK_bk, whK_rt, List.map_cons, List.map_nil, List.length_cons, List.length_nil, List.replicate_succ, List.replicate_zero, List.set_cons_zero, List.set_cons_succ, List.cons_append, List.nil_append, List.append_nil, Nat.reduceAdd, Nat.reduceSub, Nat.sub_zero, Nat.sub_self, Nat.zero_add, List.getElem?_cons_zero, List.getElem?_cons_succ, decide_true, decide_false, Bool.not_true, Bool.not_false, List.isEmpty_cons, List.isEmpty_nil, Nat.reduceLeDiff, Nat.reduceSucc, x_Me, x_meK, x_Me0, ty_ss, ty_lo, ty_ll, ty_dd, ty_lr, ap_o, up_l, pop_o, pop_l, asT_o, tru_l, tru_d, ext_o, lsts_r, lsts_t, x_chain, in_ssF, in_ssT, in_t, in_r, in_o, inK_sF, inK_sT, flat_s, flat_i, List.all_cons, List.all_nil, Bool.and_true, Bool.true_and, rev_t, rev_r, sum_r, maxL_r, minL_r, any_r, all_r, inc_ii, x_aug, x_lc, x_lc2, lcEnd_f, lcEnd_t, x_yes, x_Sl, x_oN, x_oS, asI_i, sl_t, sl_r, cut1, js_nil, js_cons, add_or, x_small, x_need, f, h1, h2, n1, s2.mp h2, if_true, if_false]
    · have n2 : ¬ c * b < a * d := fun z => h2 (s2.mpr z)
      simp only [m_compared, x_bnd, k_ok, k_exc, k_stuck, x_giv, x_fail, selM_t, selM_f, selS_t, selS_f, sK_ok, sK_exc, sK_stuck, x_seq, seq_nx, seq_bk, seq_ct, seq_rt, seq_exc, seq_stuck, x_ret, x_retN, x_exp, x_set, x_nil, x_brk, x_cnt, x_tgt, tK_ok, tK_stuck, x_asgK, x_asg, ifK_t, ifK_f, x_if, x_fgK, fK_bk, fK_rt, fK_exc, for_src, x_fpK, fpK_nx, fpK_ct, srcK_nil, srcK_rng, x_for, x_def, defK_rt, defK_nx, defK_exc, slot_some, x_slot, x_c, x_Nil, x_consK, x_cons, x_F, x_m2K, x_m2, x_m1, x_B, x_T, asB_bl, asT_bl, asT_int, asT_non, asT_tup, asT_rol, asT_frz, x_And, x_Or, andK_t, andK_f, orK_t, orK_f, x_Not, x_AndV, x_OrV, x_andVK, x_orVK, x_NotV, x_IfE, ifEK_t, ifEK_f, x_Tup, x_Lst, x_mkF, x_mkT, x_Call, add_ii, sub_ii, neg_i, cmp_ii, eq_ii, eq_bb, eq_ss, ne_ii, ne_ss, is_n, isnot_n, non_n, non_i, non_b, non_s, non_t, non_r, non_o, ix_t, ix_r, ix_f, lst_s, ix_oo, len_oo, srcL_oo, set_oo, setO_l, opt_s, len_t, len_r, len_f, abs_i, int_i, int_b, max_ii, min_ii, gcd_ii, list_f, list_r, list_t, tuple_r, tuple_t, x_It, x_Nm, x_Tp, x_gN, x_gC, x_iE, x_iF, srcL_f, srcL_r, srcT_t, srcS_s, x_Isi, isi_tt, isi_ti, isi_tn, isi_tb, isi_ts, isi_bt, isi_bi, isi_bn, isi_bb, isi_bs, isi_st, isi_si, isi_sn, isi_sb, isi_ss, isi_it, isi_ii, isi_in, isi_ib, isi_is, at0, at1, at2, at3, ix0, ix1, ix2, ix3, whC_t, whC_f, whK_nx, whK_ct, whK_bk, whK_rt, List.map_cons, List.map_nil, List.length_cons, List.length_nil, List.replicate_succ, List.replicate_zero, List.set_cons_zero, List.set_cons_succ, List.cons_append, List.nil_append, List.append_nil, Nat.reduceAdd, Nat.reduceSub, Nat.sub_zero, Nat.sub_self, Nat.zero_add, List.getElem?_cons_zero, List.getElem?_cons_succ, decide_true, decide_false, Bool.not_true, Bool.not_false, List.isEmpty_cons, List.isEmpty_nil, Nat.reduceLeDiff, Nat.reduceSucc, x_Me, x_meK, x_Me0, ty_ss, ty_lo, ty_ll, ty_dd, ty_lr, ap_o, up_l, pop_o, pop_l, asT_o, tru_l, tru_d, ext_o, lsts_r, lsts_t, x_chain, in_ssF, in_ssT, in_t, in_r, in_o, inK_sF, inK_sT, flat_s, flat_i, List.all_cons, List.all_nil, Bool.and_true, Bool.true_and, rev_t, rev_r, sum_r, maxL_r, minL_r, any_r, all_r, inc_ii, x_aug, x_lc, x_lc2, lcEnd_f, lcEnd_t, x_yes, x_Sl, x_oN, x_oS, asI_i, sl_t, sl_r, cut1, js_nil, js_cons, add_or, x_small, x_need, f, h1, h2, n1, n2, if_true, if_false]
theorem floor_u (hb : b ≠ 0) (h : bits b 900) : m_floor_of [.tup [.int a, .int b]] S = .ok (.int (a.fdiv b)) S := by
  have c1 : CDivZ a b := ⟨hb, Nat.lt_of_lt_of_le (PySem.Flt.log2_lt_of (by decide) h) (by decide)⟩
  simp only [m_floor_of, x_bnd, k_ok, k_exc, k_stuck, x_giv, x_fail, selM_t, selM_f, selS_t, selS_f, sK_ok, sK_exc, sK_stuck, x_seq, seq_nx, seq_bk, seq_ct, seq_rt, seq_exc, seq_stuck, x_ret, x_retN, x_exp, x_set, x_nil, x_brk, x_cnt, x_tgt, tK_ok, tK_stuck, x_asgK, x_asg, ifK_t, ifK_f, x_if, x_fgK, fK_bk, fK_rt, fK_exc, for_src, x_fpK, fpK_nx, fpK_ct, srcK_nil, srcK_rng, x_for, x_def, defK_rt, defK_nx, defK_exc, slot_some, x_slot, x_c, x_Nil, x_consK, x_cons, x_F, x_m2K, x_m2, x_m1, x_B, x_T, asB_bl, asT_bl, asT_int, asT_non, asT_tup, asT_rol, asT_frz, x_And, x_Or, andK_t, andK_f, orK_t, orK_f, x_Not, x_AndV, x_OrV, x_andVK, x_orVK, x_NotV, x_IfE, ifEK_t, ifEK_f, x_Tup, x_Lst, x_mkF, x_mkT, x_Call, add_ii, sub_ii, neg_i, cmp_ii, eq_ii, eq_bb, eq_ss, ne_ii, ne_ss, is_n, isnot_n, non_n, non_i, non_b, non_s, non_t, non_r, non_o, ix_t, ix_r, ix_f, lst_s, ix_oo, len_oo, srcL_oo, set_oo, setO_l, opt_s, len_t, len_r, len_f, abs_i, int_i, int_b, max_ii, min_ii, gcd_ii, list_f, list_r, list_t, tuple_r, tuple_t, x_It, x_Nm, x_Tp, x_gN, x_gC, x_iE, x_iF, srcL_f, srcL_r, srcT_t, srcS_s, x_Isi, isi_tt, isi_ti, isi_tn, isi_tb, isi_ts, isi_bt, isi_bi, isi_bn, isi_bb, isi_bs, isi_st, isi_si, isi_sn, isi_sb, isi_ss, isi_it, isi_ii, isi_in, isi_ib, isi_is, at0, at1, at2, at3, ix0, ix1, ix2, ix3, whC_t, whC_f, whK_nx, whK_ct, whK_bk, whK_rt, List.map_cons, List.map_nil, List.length_cons, List.length_nil, List.replicate_succ, List.replicate_zero, List.set_cons_zero, List.set_cons_succ, List.cons_append, List.nil_append, List.append_nil, Nat.reduceAdd, Nat.reduceSub, Nat.sub_zero, Nat.sub_self, Nat.zero_add, List.getElem?_cons_zero, List.getElem?_cons_succ, decide_true, decide_false, Bool.not_true, Bool.not_false, List.isEmpty_cons, List.isEmpty_nil, Nat.reduceLeDiff, Nat.reduceSucc, x_Me, x_meK, x_Me0, ty_ss, ty_lo, ty_ll, ty_dd, ty_lr, ap_o, up_l, pop_o, pop_l, asT_o, tru_l, tru_d, ext_o, lsts_r, lsts_t, x_chain, in_ssF, in_ssT, in_t, in_r, in_o, inK_sF, inK_sT, flat_s, flat_i, List.all_cons, List.all_nil, Bool.and_true, Bool.true_and, rev_t, rev_r, sum_r, maxL_r, minL_r, any_r, all_r, inc_ii, x_aug, x_lc, x_lc2, lcEnd_f, lcEnd_t, x_yes, x_Sl, x_oN, x_oS, asI_i, sl_t, sl_r, cut1, js_nil, js_cons, add_or, x_small, div_ii c1]
def digF (a b : Int) : Int := if ((PySem.Str.ofString (toString b)).length : Int) > (PySem.Str.ofString (toString (if a < 0 then -a else a))).length then ((PySem.Str.ofString (toString b)).length : Int) else (PySem.Str.ofString (toString (if a < 0 then -a else a))).length
theorem abs_bits {n : Nat} (h : bits a n) : bits (if a < 0 then -a else a) n := by
  unfold bits at *
  split <;> omega
theorem abs_pos : 0 ≤ (if a < 0 then -a else a) := by split <;> omega
theorem digits_u (ha : bits a 900) (hb : bits b 900) (h : 0 ≤ b) : m_digits_of [.tup [.int a, .int b]] S = .ok (.int (digF a b)) S := by
  have e1 := str_u (S := S) (abs_bits ha)
  have e2 := strlen_u (S := S) abs_pos (abs_bits ha)
  have e3 := str_u (S := S) hb
  have e4 := strlen_u (S := S) h hb
  simp only [m_digits_of, x_bnd, k_ok, k_exc, k_stuck, x_giv, x_fail, selM_t, selM_f, selS_t, selS_f, sK_ok, sK_exc, sK_stuck, x_seq, seq_nx, seq_bk, seq_ct, seq_rt, seq_exc, seq_stuck, x_ret, x_retN, x_exp, x_set, x_nil, x_brk, x_cnt, x_tgt, tK_ok, tK_stuck, x_asgK, x_asg, ifK_t, ifK_f, x_if, x_fgK, fK_bk, fK_rt, fK_exc, for_src, x_fpK, fpK_nx, fpK_ct, srcK_nil, srcK_rng, x_for, x_def, defK_rt, defK_nx, defK_exc, slot_some, x_slot, x_c, x_Nil, x_consK, x_cons, x_F, x_m2K, x_m2, x_m1, x_B, x_T, asB_bl, asT_bl, asT_int, asT_non, asT_tup, asT_rol, asT_frz, x_And, x_Or, andK_t, andK_f, orK_t, orK_f, x_Not, x_AndV, x_OrV, x_andVK, x_orVK, x_NotV, x_IfE, ifEK_t, ifEK_f, x_Tup, x_Lst, x_mkF, x_mkT, x_Call, add_ii, sub_ii, neg_i, cmp_ii, eq_ii, eq_bb, eq_ss, ne_ii, ne_ss, is_n, isnot_n, non_n, non_i, non_b, non_s, non_t, non_r, non_o, ix_t, ix_r, ix_f, lst_s, ix_oo, len_oo, srcL_oo, set_oo, setO_l, opt_s, len_t, len_r, len_f, abs_i, int_i, int_b, max_ii, min_ii, gcd_ii, list_f, list_r, list_t, tuple_r, tuple_t, x_It, x_Nm, x_Tp, x_gN, x_gC, x_iE, x_iF, srcL_f, srcL_r, srcT_t, srcS_s, x_Isi, isi_tt, isi_ti, isi_tn, isi_tb, isi_ts, isi_bt, isi_bi, isi_bn, isi_bb, isi_bs, isi_st, isi_si, isi_sn, isi_sb, isi_ss, isi_it, isi_ii, isi_in, isi_ib, isi_is, at0, at1, at2, at3, ix0, ix1, ix2, ix3, whC_t, whC_f, whK_nx, whK_ct, whK_bk, whK_rt, List.map_cons, List.map_nil, List.length_cons, List.length_nil, List.replicate_succ, List.replicate_zero, List.set_cons_zero, List.set_cons_succ, List.cons_append, List.nil_append, List.append_nil, Nat.reduceAdd, Nat.reduceSub, Nat.sub_zero, Nat.sub_self, Nat.zero_add, List.getElem?_cons_zero, List.getElem?_cons_succ, decide_true, decide_false, Bool.not_true, Bool.not_false, List.isEmpty_cons, List.isEmpty_nil, Nat.reduceLeDiff, Nat.reduceSucc, x_Me, x_meK, x_Me0, ty_ss, ty_lo, ty_ll, ty_dd, ty_lr, ap_o, up_l, pop_o, pop_l, asT_o, tru_l, tru_d, ext_o, lsts_r, lsts_t, x_chain, in_ssF, in_ssT, in_t, in_r, in_o, inK_sF, inK_sT, flat_s, flat_i, List.all_cons, List.all_nil, Bool.and_true, Bool.true_and, rev_t, rev_r, sum_r, maxL_r, minL_r, any_r, all_r, inc_ii, x_aug, x_lc, x_lc2, lcEnd_f, lcEnd_t, x_yes, x_Sl, x_oN, x_oS, asI_i, sl_t, sl_r, cut1, js_nil, js_cons, add_or, x_small, e1, e2, e3, e4, digF]
end

theorem pick_ints {cells : List Int} {c : Nat} {T S : Store} (h : Tape cells c T S) (hc : c < 2 ^ 60) (js : List Int) (h0 : 0 < js.length) (hl : js.length < 1000) :
    ∃ (j : Int) (_ : j ∈ js) (S' : Store), m__law_pick [.obj 0, .rol (js.map .int)] S = .ok (.int j) S' ∧ Tape cells (c + 1) T S' := by
  obtain ⟨i, hi, S', e, t⟩ := pick_spec h hc (ds := js.map .int) (by simpa using h0) (by simp; omega)
  have hi' : i < js.length := by simpa using hi
  exact ⟨js[i], List.getElem_mem hi', S', by rw [e]; simp, t⟩
theorem forL_each {ok : Store → Prop} {b : MS} {t : Nat} {S : Store} (hok : ok S) (P : Env → Prop) :
    ∀ (ds : List D) (env : Env), (∀ d ∈ ds, ∀ env, P env → ∃ env', b (env.set t (some d)) S = .nx env' S ∧ P env') → P env → ∃ env', forL ok (gNm t) b ds env S = .nx env' S ∧ P env'
  | [], env, _, p => ⟨env, for_nil hok, p⟩
  | d :: ds, env, h, p => by
    obtain ⟨e1, b1, p1⟩ := h d (List.mem_cons_self ..) env p
    obtain ⟨e2, b2, p2⟩ := forL_each hok P ds e1 (fun d' hd => h d' (List.mem_cons_of_mem _ hd)) p1
    refine ⟨e2, ?_, p2⟩
    rw [for_cons hok, x_Nm, tK_ok, x_fgK, b1, fK_nx, b2]
theorem same_i (a : Int) (S : Store) : m__law_same 12 [.int a, .int a] S = .ok (.bl true) S := by
  rw [same_int, decide_eq_true rfl]
theorem ten_bits {i : Nat} (h : i ≤ 120) : bits (10 ^ i : Int) 400 := by
  have h1 : (10 ^ i : Nat) ≤ 10 ^ 120 := Nat.pow_le_pow_right (by decide) h
  have h2 : (10 ^ 120 : Nat) < 2 ^ 400 := by decide
  unfold bits
  have e : ((10 ^ i : Int)).natAbs = 10 ^ i := by rw [Int.natAbs_pow]; rfl
  rw [e]
  omega
end Py

set_option Elab.async false
set_option linter.all false
set_option maxHeartbeats 4000000
set_option maxRecDepth 100000
set_option exponentiation.threshold 10000
/-! decimal texts as lists of code points -/
namespace Py
open PySem PySem.Spec PyProof.Rows L2
abbrev numL := TL.numL
abbrev valL := NumText.digitsVal
def Dg (l : List Nat) : Prop := ∀ c ∈ l, 48 ≤ c ∧ c ≤ 57
theorem isD_all {l : List Nat} : l.all isD = true ↔ Dg l := by
  unfold Dg
  rw [List.all_eq_true]
  simp only [isD, decide_eq_true_eq]
def numI (i : Int) : List Nat := if i < 0 then 45 :: numL i.natAbs else numL i.natAbs
theorem itxt_L (i : Int) : PySem.Str.ofString (toString i) = L (numI i) := by
  unfold numI
  cases i with
  | ofNat n =>
    rw [if_neg (by show ¬ ((n : Int) < 0); omega)]
    exact SX.num_S n
  | negSucc n =>
    rw [if_pos (by exact Int.negSucc_lt_zero n)]
    have e1 : toString (Int.negSucc n) = "-" ++ toString ((n + 1 : Nat) : Int) := rfl
    rw [e1]
    have e2 : PySem.Str.ofString ("-" ++ toString ((n + 1 : Nat) : Int)) = PySem.Str.ofString "-" ++ PySem.Str.ofString (toString ((n + 1 : Nat) : Int)) := by
      refine TL.ext_tl ?_
      rw [TL.tl_append, TL.tl_ofString, TL.tl_ofString, TL.tl_ofString, String.toList_append, List.map_append]
    rw [e2, SX.num_S]
    show PySem.Str.ofString "-" ++ L (numL (n + 1)) = _
    rw [lit_L "-" [45] (by decide +kernel), L_app]
    rfl
theorem numL_dg (n : Nat) : Dg (numL n) := TL.numL_digits n
theorem numL_ne (n : Nat) : numL n ≠ [] := TL.numL_ne n
theorem numL_val (n : Nat) : valL (numL n) = n := TL.numL_val n
theorem dg_free {l : List Nat} (h : Dg l) {c : Nat} (hc : c < 48 ∨ 57 < c) : c ∉ l := fun m => by have := h c m; omega
theorem val_snoc (l : List Nat) (c : Nat) : valL (l ++ [c]) = valL l * 10 + (c - 48) := by
  unfold valL NumText.digitsVal
  rw [List.foldl_append]
  rfl
/-- digits without a leading zero are a number's -/
theorem canon : ∀ {l : List Nat}, Dg l → l ≠ [] → (l.head? = some 48 → l.length = 1) → numL (valL l) = l := by
  intro l
  induction hl : l.length using Nat.strongRecOn generalizing l with
  | _ n ih =>
    intro hd hne h0
    obtain ⟨p, c, e⟩ : ∃ p c, l = p ++ [c] := ⟨l.dropLast, l.getLast hne, (List.dropLast_concat_getLast hne).symm⟩
    subst e
    have hc := hd c (by simp)
    by_cases hp : p = []
    · subst hp
      have e : valL [c] = c - 48 := by
        show 0 * 10 + (c - 48) = c - 48
        omega
      show numL (valL [c]) = [c]
      rw [e]
      show TL.numL (c - 48) = [c]
      rw [TL.numL_lt (by omega)]
      congr 1
      omega
    · have dp : Dg p := fun x hx => hd x (by simp [hx])
      have lp : p.length < n := by rw [← hl]; simp
      have ip := ih p.length lp (l := p) rfl dp hp (fun hh => by
        have : (p ++ [c]).head? = some 48 := by
          cases p with
          | nil => exact absurd rfl hp
          | cons x p => exact hh
        have := h0 this
        have z : (p ++ [c]).length = p.length + 1 := by simp
        have z2 : 0 < p.length := List.length_pos_iff.mpr hp
        omega)
      have vp : 0 < valL p := by
        apply Nat.pos_of_ne_zero
        intro z
        rw [z] at ip
        have : numL 0 = [48] := by decide
        rw [this] at ip
        have hh : (p ++ [c]).head? = some 48 := by rw [← ip]; rfl
        have := h0 hh
        have z2 : p.length = 1 := by rw [← ip]; rfl
        have z : (p ++ [c]).length = p.length + 1 := by simp
        omega
      rw [val_snoc]
      show TL.numL _ = _
      rw [TL.numL_step (by omega)]
      have e1 : (valL p * 10 + (c - 48)) / 10 = valL p := by omega
      have e2 : (valL p * 10 + (c - 48)) % 10 = c - 48 := by omega
      rw [e1, e2]
      show numL (valL p) ++ [48 + (c - 48)] = _
      rw [ip]
      congr 2
      omega
theorem numL_head (n : Nat) (h : (numL n).head? = some 48) : (numL n).length = 1 := by
  induction n using Nat.strongRecOn with
  | _ n ih =>
    by_cases hn : n < 10
    · show (TL.numL n).length = 1
      rw [TL.numL_lt hn]
      rfl
    · exfalso
      have e : numL n = numL (n / 10) ++ [48 + n % 10] := TL.numL_step (by omega)
      rw [e] at h
      have h2 : (numL (n / 10)).head? = some 48 := by
        cases q : numL (n / 10) with
        | nil => exact absurd q (numL_ne _)
        | cons x r => rw [q] at h; exact h
      have h3 := ih (n / 10) (by omega) h2
      have h4 : numL (n / 10) = [48] := by
        cases q : numL (n / 10) with
        | nil => exact absurd q (numL_ne _)
        | cons x r =>
          rw [q] at h2 h3
          cases r with
          | nil =>
            have : x = 48 := by simpa using h2
            rw [this]
          | cons _ _ => simp at h3
      have h5 := numL_val (n / 10)
      rw [h4] at h5
      have : valL [48] = 0 := rfl
      omega
theorem val_lt {l : List Nat} (h : Dg l) : valL l < 10 ^ l.length := by
  induction hl : l.length generalizing l with
  | zero =>
    have : l = [] := List.eq_nil_of_length_eq_zero hl
    subst this
    decide
  | succ k ih =>
    have hne : l ≠ [] := by intro z; rw [z] at hl; cases hl
    obtain ⟨p, c, e⟩ : ∃ p c, l = p ++ [c] := ⟨l.dropLast, l.getLast hne, (List.dropLast_concat_getLast hne).symm⟩
    subst e
    have hp : p.length = k := by simpa using hl
    have := ih (l := p) (fun x hx => h x (by simp [hx])) hp
    have hc := h c (by simp)
    rw [val_snoc, Nat.pow_succ]
    omega
theorem int_dg {l : List Nat} (h : Dg l) (hne : l ≠ []) (hl : l.length ≤ 640) : PySem.intText? (L l) = some ((valL l : Nat) : Int) :=
  PySem.intText_digits (x := L l) h hne (by rw [L_len]; omega)
theorem int_neg {l : List Nat} (h : Dg l) (hne : l ≠ []) (hl : l.length ≤ 639) : PySem.intText? (L (45 :: l)) = some (-((valL l : Nat) : Int)) :=
  PySem.intText_neg (x := L (45 :: l)) (cs := l) rfl h hne (by rw [L_len]; simp; omega)
theorem gint_dg {l : List Nat} {S : Store} (h : Dg l) (hne : l ≠ []) (hl : l.length ≤ 640) : gInt [.str (L l)] S = .ok (.int (valL l : Nat)) S := by
  show opt (PySem.intText? (L l)) _ S = _
  rw [int_dg h hne hl]
  exact if_pos (by rw [L_len]; exact hl)
theorem gint_neg {l : List Nat} {S : Store} (h : Dg l) (hne : l ≠ []) (hl : l.length ≤ 639) : gInt [.str (L (45 :: l))] S = .ok (.int (-(valL l : Nat))) S := by
  show opt (PySem.intText? (L (45 :: l))) _ S = _
  rw [int_neg h hne hl]
  exact if_pos (by rw [L_len]; simp; omega)
theorem numL_len' {n k : Nat} (hk : 0 < k) (h : n < 10 ^ k) : (numL n).length ≤ k := TL.numL_len hk h
theorem ten_two (k : Nat) : (10 : Nat) ^ k ≤ 2 ^ (4 * k) := by
  rw [Nat.pow_mul]
  exact Nat.pow_le_pow_left (by decide) k
/-- a loop over items that may leave with an answer -/
theorem forP_test {b : MS} {t : Nat} {S : Store} (p : D → Bool) (r : D) (Q : Env → Prop) : ∀ (ds : List D) (env : Env), (∀ d ∈ ds, ∀ env, Q env → (p d = true → ∃ env', b (env.set t (some d)) S = .nx env' S ∧ Q env') ∧ (p d = false → b (env.set t (some d)) S = .rt r S)) → Q env →
    (ds.all p = true ∧ ∃ env', forP (gNm t) b ds env S = .nx env' S ∧ Q env') ∨ (ds.all p = false ∧ forP (gNm t) b ds env S = .rt r S)
  | [], env, _, q => .inl ⟨rfl, env, fp_nil, q⟩
  | d :: ds, env, h, q => by
    obtain ⟨h1, h2⟩ := h d (List.mem_cons_self ..) env q
    rw [fp_cons, x_Nm, tK_ok, x_fpK, List.all_cons]
    cases e : p d with
    | true =>
      obtain ⟨e1, b1, q1⟩ := h1 e
      rw [b1, fpK_nx]
      rcases forP_test p r Q ds e1 (fun d' hd => h d' (List.mem_cons_of_mem _ hd)) q1 with ⟨i1, i2⟩ | ⟨i1, i2⟩
      · exact .inl ⟨by rw [i1]; rfl, i2⟩
      · exact .inr ⟨by rw [i1]; rfl, i2⟩
    | false =>
      rw [h2 e]
      exact .inr ⟨rfl, rfl⟩
theorem src_L (l : List Nat) {S : Store} : srcS (.str (L l)) S = .ok ⟨l.map fun c => D.str (L [c]), []⟩ S := by
  rw [srcS_s]
theorem for_L {i : Nat} {g : MG} {b : MS} {env : Py.Env} {l : List Nat} {S : Store} (h : env[i]? = some (some (.str (L l)))) : sFor (iE srcS (mSlot i)) g b env S = forP g b (l.map fun c => D.str (L [c])) env S := by
  unfold sFor iE bnd mSlot
  rw [h]
  exact for_src
theorem ix_L {l : List Nat} {i : Nat} {S : Store} (h : i < l.length) (hl : l.length ≤ 10000000) : dIx (.str (L l)) (.int i) S = .ok (.str (L [l[i]])) S := by
  show need ((L l).length ≤ sizeLine) (opt (atI l (i : Int)) fun c => giv (D.str ⟨#[c]⟩)) S = _
  have e : atI l (i : Int) = some l[i] := atI_nat (List.getElem?_eq_getElem h)
  rw [x_need (by rw [L_len, sizeLine_eq]; omega), e]
  rfl
theorem len_L {l : List Nat} {S : Store} (hl : l.length ≤ 10000000) : gLen [.str (L l)] S = .ok (.int (l.length : Int)) S := by
  rw [show ((l.length : Nat) : Int) = (((L l).length : Nat) : Int) by rw [L_len]]
  exact if_pos (by rw [L_len, sizeLine_eq]; omega)
theorem add_L {a b : List Nat} {o : Bool} {S : Store} (h : a.length + b.length ≤ 10000000) : dAdd o (.str (L a)) (.str (L b)) S = .ok (.str (L (a ++ b))) S := by
  rw [← L_app]
  exact if_pos (by rw [L_len, L_len, sizeLine_eq]; omega)
theorem lnle {k : Nat} (h : k ≤ 10000000) : k ≤ sizeLine := by rw [sizeLine_eq]; omega
theorem jk_L {a b : List Nat} {k : Str → M D} {S : Store} (h : a.length + b.length ≤ 10000000) : joinK (L a) k (.str (L b)) S = k (L (a ++ b)) S := by
  rw [jk_s (lnle (by rw [L_app, L_len, List.length_append]; exact h)), L_app]
theorem fmt_L {b : List Nat} {S : Store} (h : b.length ≤ 10000000) : fmtD (.str (L b)) S = .ok (.str (L b)) S := fmt_s (lnle (by rw [L_len]; exact h))
theorem asT_L {l : List Nat} {S : Store} (h : l.length ≤ 10000000) : asT (.str (L l)) S = .ok (!l.isEmpty) S := by
  have e : asT (.str (L l)) S = .ok (((L l).length : Int) != 0) S := if_pos (lnle (by rw [L_len]; exact h))
  rw [e, L_len]
  cases l with
  | nil => rfl
  | cons c r =>
    have : (((r.length + 1 : Nat) : Int) != 0) = true := bne_iff_ne.mpr (by omega)
    show Res.ok (((r.length + 1 : Nat) : Int) != 0) S = Res.ok true S
    rw [this]
theorem lit_0 : PySem.Str.ofString "0" = L [48] := lit_L _ _ (by decide +kernel)
theorem lit_1 : PySem.Str.ofString "1" = L [49] := lit_L _ _ (by decide +kernel)
theorem lit_e : PySem.Str.ofString "" = L [] := lit_L _ _ (by decide +kernel)
theorem lit_m : PySem.Str.ofString "-" = L [45] := lit_L _ _ (by decide +kernel)
theorem lit_p : PySem.Str.ofString "+" = L [43] := lit_L _ _ (by decide +kernel)
theorem lit_s : PySem.Str.ofString "/" = L [47] := lit_L _ _ (by decide +kernel)
theorem lit_b : PySem.Str.ofString " " = L [32] := lit_L _ _ (by decide +kernel)
theorem lit_d : PySem.Str.ofString "0123456789" = L [48, 49, 50, 51, 52, 53, 54, 55, 56, 57] := lit_L _ _ (by decide +kernel)
theorem in_digits (c : Nat) : decide (c ∈ [48, 49, 50, 51, 52, 53, 54, 55, 56, 57]) = isD c := by
  unfold isD
  simp only [List.mem_cons, List.not_mem_nil, or_false]
  congr 1
  apply propext
  omega
end Py

set_option Elab.async false
set_option linter.all false
set_option maxHeartbeats 4000000
set_option maxRecDepth 100000
set_option exponentiation.threshold 10000
namespace K09
open PySem PySem.Spec PyProof.Rows L2 Py
/-! a text l, its rest s behind place i -/
section
variable {l s r : List Nat} {i c k : Nat} {S : Store} {o : Bool}
theorem at_lt (hs : l.drop i = c :: r) : i < l.length := Classical.byContradiction fun h => by
  rw [List.drop_eq_nil_of_le (by omega)] at hs
  cases hs
theorem at_get (hs : l.drop i = c :: r) : l[i]'(at_lt hs) = c := by
  have := List.drop_eq_getElem_cons (at_lt hs)
  rw [hs] at this
  exact (List.cons.inj this).1.symm
theorem at_next (hs : l.drop i = c :: r) : l.drop (i + 1) = r := by
  have := List.drop_eq_getElem_cons (at_lt hs)
  rw [hs] at this
  exact (List.cons.inj this).2.symm
theorem at_len (hs : l.drop i = s) (hi : i ≤ l.length) : l.length = i + s.length := by rw [← hs, List.length_drop]; omega
theorem ix_at (hs : l.drop i = c :: r) (hl : l.length ≤ 10000) : dIx (.str (L l)) (.int (i : Int)) S = .ok (.str (L [c])) S := by
  rw [ix_L (at_lt hs) (by omega), at_get hs]
theorem sl_at (hs : l.drop i = s) (hi : i ≤ l.length) (hl : l.length ≤ 10000) : dSl o (.str (L l)) (some (i : Int)) (some ((i + k : Nat) : Int)) S = .ok (.str (L (s.take k))) S := by
  have n := at_len hs hi
  rw [sl_L (by omega), sIx_nat, sIx_nat]
  have e : (l.drop (min i l.length)).take (min (i + k) l.length - min i l.length) = s.take k := by
    rw [Nat.min_eq_left hi, hs]
    by_cases h : i + k ≤ l.length
    · rw [Nat.min_eq_left h]; congr 1; omega
    · rw [Nat.min_eq_right (by omega), List.take_of_length_le (by omega), List.take_of_length_le (by omega)]
  rw [e]
theorem start_at {w : List Nat} (hs : l.drop i = s) (hi : i ≤ l.length) : gStartswith (.str (L l)) [.str (L w), .int (i : Int)] S = .ok (.bl (s.take w.length == w)) S := by
  have e : Txt.startswith3 (L l) (L w) (i : Int) = (s.take w.length == w) := by
    unfold Txt.startswith3
    have f : fromIndex (L l).length (i : Int) = i := by
      unfold fromIndex
      rw [if_neg (by omega)]
      omega
    rw [f, sub_L, hs, L_len, L_len]
    have n := at_len hs hi
    by_cases h : i + w.length ≤ l.length
    · rw [decide_eq_true h, Bool.true_and]
    · rw [decide_eq_false h, Bool.false_and]
      symm
      rw [beq_eq_false_iff_ne]
      intro z
      have := congrArg List.length z
      rw [List.length_take] at this
      omega
  show Res.ok (D.bl (Txt.startswith3 (L l) (L w) (i : Int))) S = _
  rw [e]
/-- the place of the first c, or none -/
def fnd (c : Nat) : List Nat → Option Nat
  | [] => none
  | x :: r => if x = c then some 0 else (fnd c r).map (· + 1)
theorem fnd_spec (c : Nat) : ∀ s : List Nat, (fnd c s = none ∧ c ∉ s) ∨ ∃ k, fnd c s = some k ∧ ∃ h : k < s.length, s[k] = c ∧ ∀ j (hj : j < s.length), j < k → s[j] ≠ c
  | [] => .inl ⟨rfl, by simp⟩
  | x :: r => by
    unfold fnd
    by_cases h : x = c
    · rw [if_pos h]
      exact .inr ⟨0, rfl, by simp, h, fun j hj z => by omega⟩
    · rw [if_neg h]
      rcases fnd_spec c r with ⟨e, n⟩ | ⟨k, e, hk, g, a⟩
      · rw [e]
        exact .inl ⟨rfl, by simp [Ne.symm h, n]⟩
      · rw [e]
        refine .inr ⟨k + 1, rfl, by simp; omega, by simpa using g, fun j hj z => ?_⟩
        cases j with
        | zero => simpa using h
        | succ j => simpa using a j (by simpa using hj) (by omega)
theorem find_at (hs : l.drop i = s) (hi : i ≤ l.length) : gFindS (.str (L l)) [.str (L [c]), .int (i : Int)] S = .ok (.int (match fnd c s with | some k => ((i + k : Nat) : Int) | none => -1)) S := by
  have n := at_len hs hi
  have gd : ∀ v, (L l).cps.getD v 0 = l.getD v 0 := fun v => by
    show l.toArray.getD v 0 = _
    rw [Array.getD_eq_getD_getElem?, List.getD_eq_getElem?_getD, List.getElem?_toArray]
  have f : fromIndex (L l).length (i : Int) = i := by
    unfold fromIndex
    rw [if_neg (by omega)]
    omega
  have gs : ∀ j (hj : j < s.length), l.getD (i + j) 0 = s[j] := fun j hj => by
    subst hs
    rw [List.getD_eq_getElem?_getD, List.getElem?_eq_getElem (by omega), Option.getD_some, List.getElem_drop]
  have e : Txt.find3 (L l) (L [c]) (i : Int) = (match fnd c s with | some k => ((i + k : Nat) : Int) | none => -1) := by
    have sp := StrLaws.find3_spec (L l) c (i : Int)
    have eL : (L [c]) = (⟨#[c]⟩ : Str) := rfl
    rw [← eL, f, L_len] at sp
    rcases fnd_spec c s with ⟨e, h⟩ | ⟨k, e, hk, g, a⟩
    · rw [e]
      rcases sp with ⟨q, _⟩ | ⟨k, q, h1, h2, h3, _⟩
      · exact q
      · exfalso
        rw [gd] at h3
        have := gs (k - i) (by omega)
        rw [show i + (k - i) = k by omega, h3] at this
        exact h (this ▸ List.getElem_mem _)
    · rw [e]
      rcases sp with ⟨_, q⟩ | ⟨v, q, h1, h2, h3, h4⟩
      · exfalso
        have := q (i + k) (by omega) (by omega)
        rw [gd, gs k hk] at this
        exact this g
      · rw [q]
        rw [gd] at h3
        have e1 : ¬ v < i + k := fun z => by
          have := gs (v - i) (by omega)
          rw [show i + (v - i) = v by omega, h3] at this
          exact a (v - i) (by omega) (by omega) this.symm
        have e2 : ¬ i + k < v := fun z => by
          have := h4 (i + k) (by omega) z
          rw [gd, gs k hk] at this
          exact this g
        show (v : Int) = ((i + k : Nat) : Int)
        omega
  show Res.ok (D.int (Txt.find3 (L l) (L [c]) (i : Int))) S = _
  rw [e]
end
/-! runs -/
def tw (al s : List Nat) : Nat := (s.takeWhile fun c => decide (c ∈ al)).length
theorem tw_nil (al : List Nat) : tw al [] = 0 := rfl
theorem tw_in {al r : List Nat} {c : Nat} (h : c ∈ al) : tw al (c :: r) = tw al r + 1 := by unfold tw; rw [List.takeWhile_cons_of_pos (by simpa using h)]; rfl
theorem tw_out {al r : List Nat} {c : Nat} (h : c ∉ al) : tw al (c :: r) = 0 := by unfold tw; rw [List.takeWhile_cons_of_neg (by simpa using h)]; rfl
theorem tw_le (al : List Nat) : ∀ s, tw al s ≤ s.length
  | [] => Nat.le_refl _
  | c :: r => by
    by_cases h : c ∈ al
    · rw [tw_in h]; have := tw_le al r; simp; omega
    · rw [tw_out h]; omega
theorem run_loop (t : MT) (ht : t = (mAnd (mB (m2 (dCmp fun i j => decide (i < j)) (mSlot 1) (mF gLen (mCons (mSlot 0) mNil)))) (mB (m2 (dIn false) (m2 dIx (mSlot 0) (mSlot 1)) (mSlot 2))))) (al l : List Nat) (hl : l.length ≤ 10000) (S : Store) :
    ∀ (s : List Nat) (i n : Nat), l.drop i = s → i ≤ l.length → s.length < n → whileN t L__end_of_run_1 n [some (.str (L l)), some (.int (i : Int)), some (.str (L al))] S = .nx [some (.str (L l)), some (.int ((i + tw al s : Nat) : Int)), some (.str (L al))] S
  | [], i, 0, _, _, h => by simp at h
  | _ :: _, i, 0, _, _, h => by simp at h
  | [], i, n + 1, hs, hi, _ => by
    have n0 := at_len hs hi
    have z : decide ((i : Int) < ((l.length : Nat) : Int)) = false := decide_eq_false (by simp at n0; omega)
    have ln := len_L (S := S) (l := l) (by omega)
    subst ht
    simp only [x_whN, x_bnd, k_ok, k_exc, k_stuck, x_giv, x_fail, selM_t, selM_f, selS_t, selS_f, sK_ok, sK_exc, sK_stuck, x_seq, seq_nx, seq_bk, seq_ct, seq_rt, seq_exc, seq_stuck, x_ret, x_retN, x_exp, x_set, x_nil, x_brk, x_cnt, x_tgt, tK_ok, tK_stuck, x_asgK, x_asg, ifK_t, ifK_f, x_if, x_fgK, fK_bk, fK_rt, fK_exc, for_src, x_fpK, fpK_nx, fpK_ct, srcK_nil, srcK_rng, x_for, x_def, defK_rt, defK_nx, defK_exc, slot_some, x_slot, x_c, x_Nil, x_consK, x_cons, x_F, x_m2K, x_m2, x_m1, x_B, x_T, asB_bl, asT_bl, asT_int, asT_non, asT_tup, asT_rol, asT_frz, x_And, x_Or, andK_t, andK_f, orK_t, orK_f, x_Not, x_AndV, x_OrV, x_andVK, x_orVK, x_NotV, x_IfE, ifEK_t, ifEK_f, x_Tup, x_Lst, x_mkF, x_mkT, x_Call, add_ii, sub_ii, neg_i, cmp_ii, eq_ii, eq_bb, eq_ss, ne_ii, ne_ss, is_n, isnot_n, non_n, non_i, non_b, non_s, non_t, non_r, non_o, ix_t, ix_r, ix_f, lst_s, ix_oo, len_oo, srcL_oo, set_oo, setO_l, opt_s, len_t, len_r, len_f, abs_i, int_i, int_b, max_ii, min_ii, gcd_ii, list_f, list_r, list_t, tuple_r, tuple_t, x_It, x_Nm, x_Tp, x_gN, x_gC, x_iE, x_iF, srcL_f, srcL_r, srcT_t, srcS_s, x_Isi, isi_tt, isi_ti, isi_tn, isi_tb, isi_ts, isi_bt, isi_bi, isi_bn, isi_bb, isi_bs, isi_st, isi_si, isi_sn, isi_sb, isi_ss, isi_it, isi_ii, isi_in, isi_ib, isi_is, at0, at1, at2, at3, ix0, ix1, ix2, ix3, whC_t, whC_f, whK_nx, whK_ct, whK_bk, whK_rt, List.map_cons, List.map_nil, List.length_cons, List.length_nil, List.replicate_succ, List.replicate_zero, List.set_cons_zero, List.set_cons_succ, List.cons_append, List.nil_append, List.append_nil, Nat.reduceAdd, Nat.reduceSub, Nat.sub_zero, Nat.sub_self, Nat.zero_add, List.getElem?_cons_zero, List.getElem?_cons_succ, decide_true, decide_false, Bool.not_true, Bool.not_false, List.isEmpty_cons, List.isEmpty_nil, Nat.reduceLeDiff, Nat.reduceSucc, x_Me, x_meK, x_Me0, ty_ss, ty_lo, ty_ll, ty_dd, ty_lr, ap_o, up_l, pop_o, pop_l, asT_o, tru_l, tru_d, ext_o, lsts_r, lsts_t, x_chain, in_ssF, in_ssT, in_t, in_r, in_o, inK_sF, inK_sT, flat_s, flat_i, List.all_cons, List.all_nil, Bool.and_true, Bool.true_and, rev_t, rev_r, sum_r, maxL_r, minL_r, any_r, all_r, inc_ii, x_aug, x_lc, x_lc2, lcEnd_f, lcEnd_t, x_yes, x_Sl, x_oN, x_oS, asI_i, sl_t, sl_r, cut1, js_nil, js_cons, add_or, x_raise, x_raiseI, rai_2, x_try, try_nx, try_rt, try_e0, try_e2, hot_bl, x_isx, isx_1, x_fld, fld_1, L_app, in_L, x_small, ln, z, tw_nil, Nat.add_zero]
  | c :: r, i, n + 1, hs, hi, h => by
    have lt := at_lt hs
    have z : decide ((i : Int) < ((l.length : Nat) : Int)) = true := decide_eq_true (by omega)
    have ln := len_L (S := S) (l := l) (by omega)
    have ix := ix_at (S := S) hs hl
    by_cases hc : c ∈ al
    · have ih := run_loop t ht al l hl S r (i + 1) n (at_next hs) (by omega) (by simp at h; omega)
      have e : (i : Int) + 1 = ((i + 1 : Nat) : Int) := rfl
      rw [tw_in hc, show i + (tw al r + 1) = i + 1 + tw al r by omega, ← ih]
      have hd : decide (c ∈ al) = true := decide_eq_true hc
      subst ht
      simp only [x_whN, L__end_of_run_1, x_sBnd, inc_ii, x_bnd, k_ok, k_exc, k_stuck, x_giv, x_fail, selM_t, selM_f, selS_t, selS_f, sK_ok, sK_exc, sK_stuck, x_seq, seq_nx, seq_bk, seq_ct, seq_rt, seq_exc, seq_stuck, x_ret, x_retN, x_exp, x_set, x_nil, x_brk, x_cnt, x_tgt, tK_ok, tK_stuck, x_asgK, x_asg, ifK_t, ifK_f, x_if, x_fgK, fK_bk, fK_rt, fK_exc, for_src, x_fpK, fpK_nx, fpK_ct, srcK_nil, srcK_rng, x_for, x_def, defK_rt, defK_nx, defK_exc, slot_some, x_slot, x_c, x_Nil, x_consK, x_cons, x_F, x_m2K, x_m2, x_m1, x_B, x_T, asB_bl, asT_bl, asT_int, asT_non, asT_tup, asT_rol, asT_frz, x_And, x_Or, andK_t, andK_f, orK_t, orK_f, x_Not, x_AndV, x_OrV, x_andVK, x_orVK, x_NotV, x_IfE, ifEK_t, ifEK_f, x_Tup, x_Lst, x_mkF, x_mkT, x_Call, add_ii, sub_ii, neg_i, cmp_ii, eq_ii, eq_bb, eq_ss, ne_ii, ne_ss, is_n, isnot_n, non_n, non_i, non_b, non_s, non_t, non_r, non_o, ix_t, ix_r, ix_f, lst_s, ix_oo, len_oo, srcL_oo, set_oo, setO_l, opt_s, len_t, len_r, len_f, abs_i, int_i, int_b, max_ii, min_ii, gcd_ii, list_f, list_r, list_t, tuple_r, tuple_t, x_It, x_Nm, x_Tp, x_gN, x_gC, x_iE, x_iF, srcL_f, srcL_r, srcT_t, srcS_s, x_Isi, isi_tt, isi_ti, isi_tn, isi_tb, isi_ts, isi_bt, isi_bi, isi_bn, isi_bb, isi_bs, isi_st, isi_si, isi_sn, isi_sb, isi_ss, isi_it, isi_ii, isi_in, isi_ib, isi_is, at0, at1, at2, at3, ix0, ix1, ix2, ix3, whC_t, whC_f, whK_nx, whK_ct, whK_bk, whK_rt, List.map_cons, List.map_nil, List.length_cons, List.length_nil, List.replicate_succ, List.replicate_zero, List.set_cons_zero, List.set_cons_succ, List.cons_append, List.nil_append, List.append_nil, Nat.reduceAdd, Nat.reduceSub, Nat.sub_zero, Nat.sub_self, Nat.zero_add, List.getElem?_cons_zero, List.getElem?_cons_succ, decide_true, decide_false, Bool.not_true, Bool.not_false, List.isEmpty_cons, List.isEmpty_nil, Nat.reduceLeDiff, Nat.reduceSucc, x_Me, x_meK, x_Me0, ty_ss, ty_lo, ty_ll, ty_dd, ty_lr, ap_o, up_l, pop_o, pop_l, asT_o, tru_l, tru_d, ext_o, lsts_r, lsts_t, x_chain, in_ssF, in_ssT, in_t, in_r, in_o, inK_sF, inK_sT, flat_s, flat_i, List.all_cons, List.all_nil, Bool.and_true, Bool.true_and, rev_t, rev_r, sum_r, maxL_r, minL_r, any_r, all_r, inc_ii, x_aug, x_lc, x_lc2, lcEnd_f, lcEnd_t, x_yes, x_Sl, x_oN, x_oS, asI_i, sl_t, sl_r, cut1, js_nil, js_cons, add_or, x_raise, x_raiseI, rai_2, x_try, try_nx, try_rt, try_e0, try_e2, hot_bl, x_isx, isx_1, x_fld, fld_1, L_app, in_L, x_small, ln, z, ix, hd, e]
    · rw [tw_out hc]
      have hd : decide (c ∈ al) = false := decide_eq_false hc
      subst ht
      simp only [x_whN, x_bnd, k_ok, k_exc, k_stuck, x_giv, x_fail, selM_t, selM_f, selS_t, selS_f, sK_ok, sK_exc, sK_stuck, x_seq, seq_nx, seq_bk, seq_ct, seq_rt, seq_exc, seq_stuck, x_ret, x_retN, x_exp, x_set, x_nil, x_brk, x_cnt, x_tgt, tK_ok, tK_stuck, x_asgK, x_asg, ifK_t, ifK_f, x_if, x_fgK, fK_bk, fK_rt, fK_exc, for_src, x_fpK, fpK_nx, fpK_ct, srcK_nil, srcK_rng, x_for, x_def, defK_rt, defK_nx, defK_exc, slot_some, x_slot, x_c, x_Nil, x_consK, x_cons, x_F, x_m2K, x_m2, x_m1, x_B, x_T, asB_bl, asT_bl, asT_int, asT_non, asT_tup, asT_rol, asT_frz, x_And, x_Or, andK_t, andK_f, orK_t, orK_f, x_Not, x_AndV, x_OrV, x_andVK, x_orVK, x_NotV, x_IfE, ifEK_t, ifEK_f, x_Tup, x_Lst, x_mkF, x_mkT, x_Call, add_ii, sub_ii, neg_i, cmp_ii, eq_ii, eq_bb, eq_ss, ne_ii, ne_ss, is_n, isnot_n, non_n, non_i, non_b, non_s, non_t, non_r, non_o, ix_t, ix_r, ix_f, lst_s, ix_oo, len_oo, srcL_oo, set_oo, setO_l, opt_s, len_t, len_r, len_f, abs_i, int_i, int_b, max_ii, min_ii, gcd_ii, list_f, list_r, list_t, tuple_r, tuple_t, x_It, x_Nm, x_Tp, x_gN, x_gC, x_iE, x_iF, srcL_f, srcL_r, srcT_t, srcS_s, x_Isi, isi_tt, isi_ti, isi_tn, isi_tb, isi_ts, isi_bt, isi_bi, isi_bn, isi_bb, isi_bs, isi_st, isi_si, isi_sn, isi_sb, isi_ss, isi_it, isi_ii, isi_in, isi_ib, isi_is, at0, at1, at2, at3, ix0, ix1, ix2, ix3, whC_t, whC_f, whK_nx, whK_ct, whK_bk, whK_rt, List.map_cons, List.map_nil, List.length_cons, List.length_nil, List.replicate_succ, List.replicate_zero, List.set_cons_zero, List.set_cons_succ, List.cons_append, List.nil_append, List.append_nil, Nat.reduceAdd, Nat.reduceSub, Nat.sub_zero, Nat.sub_self, Nat.zero_add, List.getElem?_cons_zero, List.getElem?_cons_succ, decide_true, decide_false, Bool.not_true, Bool.not_false, List.isEmpty_cons, List.isEmpty_nil, Nat.reduceLeDiff, Nat.reduceSucc, x_Me, x_meK, x_Me0, ty_ss, ty_lo, ty_ll, ty_dd, ty_lr, ap_o, up_l, pop_o, pop_l, asT_o, tru_l, tru_d, ext_o, lsts_r, lsts_t, x_chain, in_ssF, in_ssT, in_t, in_r, in_o, inK_sF, inK_sT, flat_s, flat_i, List.all_cons, List.all_nil, Bool.and_true, Bool.true_and, rev_t, rev_r, sum_r, maxL_r, minL_r, any_r, all_r, inc_ii, x_aug, x_lc, x_lc2, lcEnd_f, lcEnd_t, x_yes, x_Sl, x_oN, x_oS, asI_i, sl_t, sl_r, cut1, js_nil, js_cons, add_or, x_raise, x_raiseI, rai_2, x_try, try_nx, try_rt, try_e0, try_e2, hot_bl, x_isx, isx_1, x_fld, fld_1, L_app, in_L, x_small, ln, z, ix, hd, Nat.add_zero]
theorem run_spec {al l s : List Nat} {i : Nat} (hs : l.drop i = s) (hi : i ≤ l.length) (hl : l.length ≤ 10000) (S : Store) : m__end_of_run [.str (L l), .int (i : Int), .str (L al)] S = .ok (.int ((i + tw al s : Nat) : Int)) S := by
  have w := while_of (run_loop _ rfl al l hl S s i (s.length + 1) hs hi (Nat.lt_succ_self _)) (by simp)
  simp only [m__end_of_run, ↓w, x_bnd, k_ok, k_exc, k_stuck, x_giv, x_fail, selM_t, selM_f, selS_t, selS_f, sK_ok, sK_exc, sK_stuck, x_seq, seq_nx, seq_bk, seq_ct, seq_rt, seq_exc, seq_stuck, x_ret, x_retN, x_exp, x_set, x_nil, x_brk, x_cnt, x_tgt, tK_ok, tK_stuck, x_asgK, x_asg, ifK_t, ifK_f, x_if, x_fgK, fK_bk, fK_rt, fK_exc, for_src, x_fpK, fpK_nx, fpK_ct, srcK_nil, srcK_rng, x_for, x_def, defK_rt, defK_nx, defK_exc, slot_some, x_slot, x_c, x_Nil, x_consK, x_cons, x_F, x_m2K, x_m2, x_m1, x_B, x_T, asB_bl, asT_bl, asT_int, asT_non, asT_tup, asT_rol, asT_frz, x_And, x_Or, andK_t, andK_f, orK_t, orK_f, x_Not, x_AndV, x_OrV, x_andVK, x_orVK, x_NotV, x_IfE, ifEK_t, ifEK_f, x_Tup, x_Lst, x_mkF, x_mkT, x_Call, add_ii, sub_ii, neg_i, cmp_ii, eq_ii, eq_bb, eq_ss, ne_ii, ne_ss, is_n, isnot_n, non_n, non_i, non_b, non_s, non_t, non_r, non_o, ix_t, ix_r, ix_f, lst_s, ix_oo, len_oo, srcL_oo, set_oo, setO_l, opt_s, len_t, len_r, len_f, abs_i, int_i, int_b, max_ii, min_ii, gcd_ii, list_f, list_r, list_t, tuple_r, tuple_t, x_It, x_Nm, x_Tp, x_gN, x_gC, x_iE, x_iF, srcL_f, srcL_r, srcT_t, srcS_s, x_Isi, isi_tt, isi_ti, isi_tn, isi_tb, isi_ts, isi_bt, isi_bi, isi_bn, isi_bb, isi_bs, isi_st, isi_si, isi_sn, isi_sb, isi_ss, isi_it, isi_ii, isi_in, isi_ib, isi_is, at0, at1, at2, at3, ix0, ix1, ix2, ix3, whC_t, whC_f, whK_nx, whK_ct, whK_bk, whK_rt, List.map_cons, List.map_nil, List.length_cons, List.length_nil, List.replicate_succ, List.replicate_zero, List.set_cons_zero, List.set_cons_succ, List.cons_append, List.nil_append, List.append_nil, Nat.reduceAdd, Nat.reduceSub, Nat.sub_zero, Nat.sub_self, Nat.zero_add, List.getElem?_cons_zero, List.getElem?_cons_succ, decide_true, decide_false, Bool.not_true, Bool.not_false, List.isEmpty_cons, List.isEmpty_nil, Nat.reduceLeDiff, Nat.reduceSucc, x_Me, x_meK, x_Me0, ty_ss, ty_lo, ty_ll, ty_dd, ty_lr, ap_o, up_l, pop_o, pop_l, asT_o, tru_l, tru_d, ext_o, lsts_r, lsts_t, x_chain, in_ssF, in_ssT, in_t, in_r, in_o, inK_sF, inK_sT, flat_s, flat_i, List.all_cons, List.all_nil, Bool.and_true, Bool.true_and, rev_t, rev_r, sum_r, maxL_r, minL_r, any_r, all_r, inc_ii, x_aug, x_lc, x_lc2, lcEnd_f, lcEnd_t, x_yes, x_Sl, x_oN, x_oS, asI_i, sl_t, sl_r, cut1, js_nil, js_cons, add_or, x_raise, x_raiseI, rai_2, x_try, try_nx, try_rt, try_e0, try_e2, hot_bl, x_isx, isx_1, x_fld, fld_1, L_app, in_L, x_small]
theorem rng_succ (n : Nat) (a : Int) : ((List.range (n + 1)).map fun (k : Nat) => D.int (a + (k : Int))) = D.int a :: (List.range n).map fun (k : Nat) => D.int (a + 1 + (k : Int)) := by
  rw [List.range_succ_eq_map, List.map_cons, List.map_map]
  congr 1
  · simp
  · apply List.map_congr_left
    intro k _
    show D.int (a + ((k + 1 : Nat) : Int)) = _
    congr 1
    omega
theorem lrun_loop (al l : List Nat) (hl : l.length ≤ 10000) (S : Store) (d : D) :
    ∀ (s : List Nat) (i : Nat) (o : Option D), l.drop i = s → i ≤ l.length →
      (tw al s = s.length ∧ ∃ o', forP (gNm 3) L__law_end_of_1 ((List.range s.length).map fun (k : Nat) => .int ((i : Int) + (k : Int))) [some (.str (L l)), some d, some (.str (L al)), o] S = .nx [some (.str (L l)), some d, some (.str (L al)), o'] S) ∨
      (tw al s < s.length ∧ forP (gNm 3) L__law_end_of_1 ((List.range s.length).map fun (k : Nat) => .int ((i : Int) + (k : Int))) [some (.str (L l)), some d, some (.str (L al)), o] S = .rt (.int ((i + tw al s : Nat) : Int)) S)
  | [], i, o, hs, hi => .inl ⟨rfl, o, fp_nil⟩
  | c :: r, i, o, hs, hi => by
    have lt := at_lt hs
    have ix := ix_at (S := S) hs hl
    rw [show (c :: r).length = r.length + 1 from rfl, rng_succ, fp_cons, x_Nm, tK_ok, x_fpK]
    by_cases hc : c ∈ al
    · have hd : decide (c ∈ al) = true := decide_eq_true hc
      have e1 : L__law_end_of_1 ([some (.str (L l)), some d, some (.str (L al)), o].set 3 (some (.int (i : Int)))) S = .nx [some (.str (L l)), some d, some (.str (L al)), some (.int (i : Int))] S := by
        simp only [L__law_end_of_1, x_bnd, k_ok, k_exc, k_stuck, x_giv, x_fail, selM_t, selM_f, selS_t, selS_f, sK_ok, sK_exc, sK_stuck, x_seq, seq_nx, seq_bk, seq_ct, seq_rt, seq_exc, seq_stuck, x_ret, x_retN, x_exp, x_set, x_nil, x_brk, x_cnt, x_tgt, tK_ok, tK_stuck, x_asgK, x_asg, ifK_t, ifK_f, x_if, x_fgK, fK_bk, fK_rt, fK_exc, for_src, x_fpK, fpK_nx, fpK_ct, srcK_nil, srcK_rng, x_for, x_def, defK_rt, defK_nx, defK_exc, slot_some, x_slot, x_c, x_Nil, x_consK, x_cons, x_F, x_m2K, x_m2, x_m1, x_B, x_T, asB_bl, asT_bl, asT_int, asT_non, asT_tup, asT_rol, asT_frz, x_And, x_Or, andK_t, andK_f, orK_t, orK_f, x_Not, x_AndV, x_OrV, x_andVK, x_orVK, x_NotV, x_IfE, ifEK_t, ifEK_f, x_Tup, x_Lst, x_mkF, x_mkT, x_Call, add_ii, sub_ii, neg_i, cmp_ii, eq_ii, eq_bb, eq_ss, ne_ii, ne_ss, is_n, isnot_n, non_n, non_i, non_b, non_s, non_t, non_r, non_o, ix_t, ix_r, ix_f, lst_s, ix_oo, len_oo, srcL_oo, set_oo, setO_l, opt_s, len_t, len_r, len_f, abs_i, int_i, int_b, max_ii, min_ii, gcd_ii, list_f, list_r, list_t, tuple_r, tuple_t, x_It, x_Nm, x_Tp, x_gN, x_gC, x_iE, x_iF, srcL_f, srcL_r, srcT_t, srcS_s, x_Isi, isi_tt, isi_ti, isi_tn, isi_tb, isi_ts, isi_bt, isi_bi, isi_bn, isi_bb, isi_bs, isi_st, isi_si, isi_sn, isi_sb, isi_ss, isi_it, isi_ii, isi_in, isi_ib, isi_is, at0, at1, at2, at3, ix0, ix1, ix2, ix3, whC_t, whC_f, whK_nx, whK_ct, whK_bk, whK_rt, List.map_cons, List.map_nil, List.length_cons, List.length_nil, List.replicate_succ, List.replicate_zero, List.set_cons_zero, List.set_cons_succ, List.cons_append, List.nil_append, List.append_nil, Nat.reduceAdd, Nat.reduceSub, Nat.sub_zero, Nat.sub_self, Nat.zero_add, List.getElem?_cons_zero, List.getElem?_cons_succ, decide_true, decide_false, Bool.not_true, Bool.not_false, List.isEmpty_cons, List.isEmpty_nil, Nat.reduceLeDiff, Nat.reduceSucc, x_Me, x_meK, x_Me0, ty_ss, ty_lo, ty_ll, ty_dd, ty_lr, ap_o, up_l, pop_o, pop_l, asT_o, tru_l, tru_d, ext_o, lsts_r, lsts_t, x_chain, in_ssF, in_ssT, in_t, in_r, in_o, inK_sF, inK_sT, flat_s, flat_i, List.all_cons, List.all_nil, Bool.and_true, Bool.true_and, rev_t, rev_r, sum_r, maxL_r, minL_r, any_r, all_r, inc_ii, x_aug, x_lc, x_lc2, lcEnd_f, lcEnd_t, x_yes, x_Sl, x_oN, x_oS, asI_i, sl_t, sl_r, cut1, js_nil, js_cons, add_or, x_raise, x_raiseI, rai_2, x_try, try_nx, try_rt, try_e0, try_e2, hot_bl, x_isx, isx_1, x_fld, fld_1, L_app, in_L, x_small, ix, hd]
      rw [e1, fpK_nx, tw_in hc]
      have e : (i : Int) + 1 = ((i + 1 : Nat) : Int) := rfl
      rw [e]
      rcases lrun_loop al l hl S d r (i + 1) (some (.int (i : Int))) (at_next hs) (by omega) with ⟨h1, o', h2⟩ | ⟨h1, h2⟩
      · exact .inl ⟨by omega, o', h2⟩
      · exact .inr ⟨by omega, by rw [h2]; congr 3; omega⟩
    · have hd : decide (c ∈ al) = false := decide_eq_false hc
      have e1 : L__law_end_of_1 ([some (.str (L l)), some d, some (.str (L al)), o].set 3 (some (.int (i : Int)))) S = .rt (.int (i : Int)) S := by
        simp only [L__law_end_of_1, x_bnd, k_ok, k_exc, k_stuck, x_giv, x_fail, selM_t, selM_f, selS_t, selS_f, sK_ok, sK_exc, sK_stuck, x_seq, seq_nx, seq_bk, seq_ct, seq_rt, seq_exc, seq_stuck, x_ret, x_retN, x_exp, x_set, x_nil, x_brk, x_cnt, x_tgt, tK_ok, tK_stuck, x_asgK, x_asg, ifK_t, ifK_f, x_if, x_fgK, fK_bk, fK_rt, fK_exc, for_src, x_fpK, fpK_nx, fpK_ct, srcK_nil, srcK_rng, x_for, x_def, defK_rt, defK_nx, defK_exc, slot_some, x_slot, x_c, x_Nil, x_consK, x_cons, x_F, x_m2K, x_m2, x_m1, x_B, x_T, asB_bl, asT_bl, asT_int, asT_non, asT_tup, asT_rol, asT_frz, x_And, x_Or, andK_t, andK_f, orK_t, orK_f, x_Not, x_AndV, x_OrV, x_andVK, x_orVK, x_NotV, x_IfE, ifEK_t, ifEK_f, x_Tup, x_Lst, x_mkF, x_mkT, x_Call, add_ii, sub_ii, neg_i, cmp_ii, eq_ii, eq_bb, eq_ss, ne_ii, ne_ss, is_n, isnot_n, non_n, non_i, non_b, non_s, non_t, non_r, non_o, ix_t, ix_r, ix_f, lst_s, ix_oo, len_oo, srcL_oo, set_oo, setO_l, opt_s, len_t, len_r, len_f, abs_i, int_i, int_b, max_ii, min_ii, gcd_ii, list_f, list_r, list_t, tuple_r, tuple_t, x_It, x_Nm, x_Tp, x_gN, x_gC, x_iE, x_iF, srcL_f, srcL_r, srcT_t, srcS_s, x_Isi, isi_tt, isi_ti, isi_tn, isi_tb, isi_ts, isi_bt, isi_bi, isi_bn, isi_bb, isi_bs, isi_st, isi_si, isi_sn, isi_sb, isi_ss, isi_it, isi_ii, isi_in, isi_ib, isi_is, at0, at1, at2, at3, ix0, ix1, ix2, ix3, whC_t, whC_f, whK_nx, whK_ct, whK_bk, whK_rt, List.map_cons, List.map_nil, List.length_cons, List.length_nil, List.replicate_succ, List.replicate_zero, List.set_cons_zero, List.set_cons_succ, List.cons_append, List.nil_append, List.append_nil, Nat.reduceAdd, Nat.reduceSub, Nat.sub_zero, Nat.sub_self, Nat.zero_add, List.getElem?_cons_zero, List.getElem?_cons_succ, decide_true, decide_false, Bool.not_true, Bool.not_false, List.isEmpty_cons, List.isEmpty_nil, Nat.reduceLeDiff, Nat.reduceSucc, x_Me, x_meK, x_Me0, ty_ss, ty_lo, ty_ll, ty_dd, ty_lr, ap_o, up_l, pop_o, pop_l, asT_o, tru_l, tru_d, ext_o, lsts_r, lsts_t, x_chain, in_ssF, in_ssT, in_t, in_r, in_o, inK_sF, inK_sT, flat_s, flat_i, List.all_cons, List.all_nil, Bool.and_true, Bool.true_and, rev_t, rev_r, sum_r, maxL_r, minL_r, any_r, all_r, inc_ii, x_aug, x_lc, x_lc2, lcEnd_f, lcEnd_t, x_yes, x_Sl, x_oN, x_oS, asI_i, sl_t, sl_r, cut1, js_nil, js_cons, add_or, x_raise, x_raiseI, rai_2, x_try, try_nx, try_rt, try_e0, try_e2, hot_bl, x_isx, isx_1, x_fld, fld_1, L_app, in_L, x_small, ix, hd]
      rw [e1, tw_out hc]
      exact .inr ⟨by omega, rfl⟩
theorem lrun_spec {al l s : List Nat} {i : Nat} (hs : l.drop i = s) (hi : i ≤ l.length) (hl : l.length ≤ 10000) (S : Store) : m__law_end_of [.str (L l), .int (i : Int), .str (L al)] S = .ok (.int ((i + tw al s : Nat) : Int)) S := by
  have n := at_len hs hi
  have ln := len_L (S := S) (l := l) (by omega)
  have rg : ∀ S, rng2 [.int (i : Int), .int ((l.length : Nat) : Int)] S = .ok (srcR (i : Int) (l.length : Int)) S := fun S => rng2_i ⟨by omega, by omega, by omega, by omega⟩
  have et : ((l.length : Int) - (i : Int)).toNat = s.length := by omega
  rcases lrun_loop al l hl S (.int (i : Int)) s i none hs hi with ⟨h1, o', h2⟩ | ⟨h1, h2⟩
  · rw [h1]
    have e : ((i + s.length : Nat) : Int) = ((l.length : Nat) : Int) := by omega
    simp only [m__law_end_of, x_bnd, k_ok, k_exc, k_stuck, x_giv, x_fail, selM_t, selM_f, selS_t, selS_f, sK_ok, sK_exc, sK_stuck, x_seq, seq_nx, seq_bk, seq_ct, seq_rt, seq_exc, seq_stuck, x_ret, x_retN, x_exp, x_set, x_nil, x_brk, x_cnt, x_tgt, tK_ok, tK_stuck, x_asgK, x_asg, ifK_t, ifK_f, x_if, x_fgK, fK_bk, fK_rt, fK_exc, for_src, x_fpK, fpK_nx, fpK_ct, srcK_nil, srcK_rng, x_for, x_def, defK_rt, defK_nx, defK_exc, slot_some, x_slot, x_c, x_Nil, x_consK, x_cons, x_F, x_m2K, x_m2, x_m1, x_B, x_T, asB_bl, asT_bl, asT_int, asT_non, asT_tup, asT_rol, asT_frz, x_And, x_Or, andK_t, andK_f, orK_t, orK_f, x_Not, x_AndV, x_OrV, x_andVK, x_orVK, x_NotV, x_IfE, ifEK_t, ifEK_f, x_Tup, x_Lst, x_mkF, x_mkT, x_Call, add_ii, sub_ii, neg_i, cmp_ii, eq_ii, eq_bb, eq_ss, ne_ii, ne_ss, is_n, isnot_n, non_n, non_i, non_b, non_s, non_t, non_r, non_o, ix_t, ix_r, ix_f, lst_s, ix_oo, len_oo, srcL_oo, set_oo, setO_l, opt_s, len_t, len_r, len_f, abs_i, int_i, int_b, max_ii, min_ii, gcd_ii, list_f, list_r, list_t, tuple_r, tuple_t, x_It, x_Nm, x_Tp, x_gN, x_gC, x_iE, x_iF, srcL_f, srcL_r, srcT_t, srcS_s, x_Isi, isi_tt, isi_ti, isi_tn, isi_tb, isi_ts, isi_bt, isi_bi, isi_bn, isi_bb, isi_bs, isi_st, isi_si, isi_sn, isi_sb, isi_ss, isi_it, isi_ii, isi_in, isi_ib, isi_is, at0, at1, at2, at3, ix0, ix1, ix2, ix3, whC_t, whC_f, whK_nx, whK_ct, whK_bk, whK_rt, List.map_cons, List.map_nil, List.length_cons, List.length_nil, List.replicate_succ, List.replicate_zero, List.set_cons_zero, List.set_cons_succ, List.cons_append, List.nil_append, List.append_nil, Nat.reduceAdd, Nat.reduceSub, Nat.sub_zero, Nat.sub_self, Nat.zero_add, List.getElem?_cons_zero, List.getElem?_cons_succ, decide_true, decide_false, Bool.not_true, Bool.not_false, List.isEmpty_cons, List.isEmpty_nil, Nat.reduceLeDiff, Nat.reduceSucc, x_Me, x_meK, x_Me0, ty_ss, ty_lo, ty_ll, ty_dd, ty_lr, ap_o, up_l, pop_o, pop_l, asT_o, tru_l, tru_d, ext_o, lsts_r, lsts_t, x_chain, in_ssF, in_ssT, in_t, in_r, in_o, inK_sF, inK_sT, flat_s, flat_i, List.all_cons, List.all_nil, Bool.and_true, Bool.true_and, rev_t, rev_r, sum_r, maxL_r, minL_r, any_r, all_r, inc_ii, x_aug, x_lc, x_lc2, lcEnd_f, lcEnd_t, x_yes, x_Sl, x_oN, x_oS, asI_i, sl_t, sl_r, cut1, js_nil, js_cons, add_or, x_raise, x_raiseI, rai_2, x_try, try_nx, try_rt, try_e0, try_e2, hot_bl, x_isx, isx_1, x_fld, fld_1, L_app, in_L, x_small, x_need, ln, rg, et, ↓h2, e]
  · simp only [m__law_end_of, x_bnd, k_ok, k_exc, k_stuck, x_giv, x_fail, selM_t, selM_f, selS_t, selS_f, sK_ok, sK_exc, sK_stuck, x_seq, seq_nx, seq_bk, seq_ct, seq_rt, seq_exc, seq_stuck, x_ret, x_retN, x_exp, x_set, x_nil, x_brk, x_cnt, x_tgt, tK_ok, tK_stuck, x_asgK, x_asg, ifK_t, ifK_f, x_if, x_fgK, fK_bk, fK_rt, fK_exc, for_src, x_fpK, fpK_nx, fpK_ct, srcK_nil, srcK_rng, x_for, x_def, defK_rt, defK_nx, defK_exc, slot_some, x_slot, x_c, x_Nil, x_consK, x_cons, x_F, x_m2K, x_m2, x_m1, x_B, x_T, asB_bl, asT_bl, asT_int, asT_non, asT_tup, asT_rol, asT_frz, x_And, x_Or, andK_t, andK_f, orK_t, orK_f, x_Not, x_AndV, x_OrV, x_andVK, x_orVK, x_NotV, x_IfE, ifEK_t, ifEK_f, x_Tup, x_Lst, x_mkF, x_mkT, x_Call, add_ii, sub_ii, neg_i, cmp_ii, eq_ii, eq_bb, eq_ss, ne_ii, ne_ss, is_n, isnot_n, non_n, non_i, non_b, non_s, non_t, non_r, non_o, ix_t, ix_r, ix_f, lst_s, ix_oo, len_oo, srcL_oo, set_oo, setO_l, opt_s, len_t, len_r, len_f, abs_i, int_i, int_b, max_ii, min_ii, gcd_ii, list_f, list_r, list_t, tuple_r, tuple_t, x_It, x_Nm, x_Tp, x_gN, x_gC, x_iE, x_iF, srcL_f, srcL_r, srcT_t, srcS_s, x_Isi, isi_tt, isi_ti, isi_tn, isi_tb, isi_ts, isi_bt, isi_bi, isi_bn, isi_bb, isi_bs, isi_st, isi_si, isi_sn, isi_sb, isi_ss, isi_it, isi_ii, isi_in, isi_ib, isi_is, at0, at1, at2, at3, ix0, ix1, ix2, ix3, whC_t, whC_f, whK_nx, whK_ct, whK_bk, whK_rt, List.map_cons, List.map_nil, List.length_cons, List.length_nil, List.replicate_succ, List.replicate_zero, List.set_cons_zero, List.set_cons_succ, List.cons_append, List.nil_append, List.append_nil, Nat.reduceAdd, Nat.reduceSub, Nat.sub_zero, Nat.sub_self, Nat.zero_add, List.getElem?_cons_zero, List.getElem?_cons_succ, decide_true, decide_false, Bool.not_true, Bool.not_false, List.isEmpty_cons, List.isEmpty_nil, Nat.reduceLeDiff, Nat.reduceSucc, x_Me, x_meK, x_Me0, ty_ss, ty_lo, ty_ll, ty_dd, ty_lr, ap_o, up_l, pop_o, pop_l, asT_o, tru_l, tru_d, ext_o, lsts_r, lsts_t, x_chain, in_ssF, in_ssT, in_t, in_r, in_o, inK_sF, inK_sT, flat_s, flat_i, List.all_cons, List.all_nil, Bool.and_true, Bool.true_and, rev_t, rev_r, sum_r, maxL_r, minL_r, any_r, all_r, inc_ii, x_aug, x_lc, x_lc2, lcEnd_f, lcEnd_t, x_yes, x_Sl, x_oN, x_oS, asI_i, sl_t, sl_r, cut1, js_nil, js_cons, add_or, x_raise, x_raiseI, rai_2, x_try, try_nx, try_rt, try_e0, try_e2, hot_bl, x_isx, isx_1, x_fld, fld_1, L_app, in_L, x_small, x_need, ln, rg, et, ↓h2]
end K09

set_option Elab.async false
set_option linter.all false
set_option maxHeartbeats 4000000
set_option maxRecDepth 100000
set_option exponentiation.threshold 10000
namespace K09
open PySem PySem.Spec PyProof.Rows L2 Py
def dg : List Nat := [48, 49, 50, 51, 52, 53, 54, 55, 56, 57]
def pA : List Nat := List.range' 65 26 ++ List.range' 97 26
def lA : List Nat := List.range' 97 26 ++ List.range' 65 26
theorem lit_dg : PySem.Str.ofString "0123456789" = L dg := lit_d
theorem lit_pA : PySem.Str.ofString "ABCDEFGHIJKLMNOPQRSTUVWXYZabcdefghijklmnopqrstuvwxyz" = L pA := lit_L _ _ (by decide +kernel)
theorem lit_lA : PySem.Str.ofString "abcdefghijklmnopqrstuvwxyzABCDEFGHIJKLMNOPQRSTUVWXYZ" = L lA := lit_L _ _ (by decide +kernel)
theorem lit_pt : PySem.Str.ofString "." = L [46] := lit_L _ _ (by decide +kernel)
theorem lit_q : PySem.Str.ofString "\"" = L [34] := lit_L _ _ (by decide +kernel)
theorem lit_br : PySem.Str.ofString "[" = L [91] := lit_L _ _ (by decide +kernel)
theorem lit_ab : PySem.Str.ofString "[-1]" = L [91, 45, 49, 93] := lit_L _ _ (by decide +kernel)
theorem mem_A (c : Nat) : c ∈ pA ↔ c ∈ lA := by
  unfold pA lA
  simp only [List.mem_append]
  exact or_comm
theorem tw_congr {a b : List Nat} (h : ∀ c, c ∈ a ↔ c ∈ b) (s : List Nat) : tw a s = tw b s := by
  unfold tw
  congr 2
  funext c
  exact decide_eq_decide.mpr (h c)
theorem dg_isD {c : Nat} (h : c ∈ dg) : 48 ≤ c ∧ c ≤ 57 := by
  have e := in_digits c
  have : isD c = true := by rw [← e]; exact decide_eq_true h
  unfold isD at this
  exact of_decide_eq_true this
theorem tw_dg : ∀ s : List Nat, Dg (s.take (tw dg s))
  | [] => by intro c h; simp at h
  | c :: r => by
    by_cases h : c ∈ dg
    · rw [tw_in h]
      intro x hx
      rw [List.take_succ_cons, List.mem_cons] at hx
      rcases hx with rfl | hx
      · exact dg_isD h
      · exact tw_dg r x hx
    · rw [tw_out h]
      intro x hx
      simp at hx
/-- both tokens are the same one, or both refuse -/
def Agree (l : List Nat) (i : Nat) (p q : Store → Res D) : Prop :=
  (∃ (k : Str) (v : D) (m : Nat), 0 < m ∧ i + m ≤ l.length ∧ plain 3 v ∧ (∀ S, p S = .ok (.tup [.str k, v, .int ((i + m : Nat) : Int)]) S) ∧ ∀ S, q S = .ok (.tup [.int ((i + m : Nat) : Int), .str k, v]) S) ∨
  (∃ r : Str, (∀ S, p S = .exc ⟨"FormulaError", [("reason", .str r), ("place", .int (i : Int))]⟩ S) ∧ ∀ S, q S = .ok (.str r) S)
theorem eq_LL {a b : List Nat} {S : Store} : dEq (.str (L a)) (.str (L b)) S = .ok (.bl (decide (a = b))) S := by
  rw [eq_ss]
  congr 2
  exact decide_eq_decide.mpr (by rw [L_eq])
/-! [-1] -/
theorem above_agree {l r : List Nat} {i : Nat} (hs : l.drop i = 91 :: r) (hl : l.length ≤ 10000) :
    (∀ S, m__above_at [.str (L l), .int (i : Int)] S = if (91 :: r).take 4 = [91, 45, 49, 93] then .ok (.tup [.str "above", .str (L [91, 45, 49, 93]), .int ((i + 4 : Nat) : Int)]) S else .exc ⟨"FormulaError", [("reason", .str "above"), ("place", .int (i : Int))]⟩ S) := by
  intro S
  have hi : i ≤ l.length := by have := at_lt hs; omega
  have st := fun S => start_at (S := S) (w := [91, 45, 49, 93]) hs hi
  have ln : ∀ S, gLen [.str (L [91, 45, 49, 93])] S = .ok (.int 4) S := fun S => len_L (l := [91, 45, 49, 93]) (by decide)
  have e4 : (i : Int) + 4 = ((i + 4 : Nat) : Int) := rfl
  have e5 : ([91, 45, 49, 93] : List Nat).length = 4 := rfl
  rw [e5] at st
  by_cases h : (91 :: r).take 4 = [91, 45, 49, 93]
  · have hb : ((91 :: r).take 4 == [91, 45, 49, 93]) = true := by rw [h]; rfl
    rw [if_pos h]
    simp only [m__above_at, x_bnd, k_ok, k_exc, k_stuck, x_giv, x_fail, selM_t, selM_f, selS_t, selS_f, sK_ok, sK_exc, sK_stuck, x_seq, seq_nx, seq_bk, seq_ct, seq_rt, seq_exc, seq_stuck, x_ret, x_retN, x_exp, x_set, x_nil, x_brk, x_cnt, x_tgt, tK_ok, tK_stuck, x_asgK, x_asg, ifK_t, ifK_f, x_if, x_fgK, fK_bk, fK_rt, fK_exc, for_src, x_fpK, fpK_nx, fpK_ct, srcK_nil, srcK_rng, x_for, x_def, defK_rt, defK_nx, defK_exc, slot_some, x_slot, x_c, x_Nil, x_consK, x_cons, x_F, x_m2K, x_m2, x_m1, x_B, x_T, asB_bl, asT_bl, asT_int, asT_non, asT_tup, asT_rol, asT_frz, x_And, x_Or, andK_t, andK_f, orK_t, orK_f, x_Not, x_AndV, x_OrV, x_andVK, x_orVK, x_NotV, x_IfE, ifEK_t, ifEK_f, x_Tup, x_Lst, x_mkF, x_mkT, x_Call, add_ii, sub_ii, neg_i, cmp_ii, eq_ii, eq_bb, eq_ss, ne_ii, ne_ss, is_n, isnot_n, non_n, non_i, non_b, non_s, non_t, non_r, non_o, ix_t, ix_r, ix_f, lst_s, ix_oo, len_oo, srcL_oo, set_oo, setO_l, opt_s, len_t, len_r, len_f, abs_i, int_i, int_b, max_ii, min_ii, gcd_ii, list_f, list_r, list_t, tuple_r, tuple_t, x_It, x_Nm, x_Tp, x_gN, x_gC, x_iE, x_iF, srcL_f, srcL_r, srcT_t, srcS_s, x_Isi, isi_tt, isi_ti, isi_tn, isi_tb, isi_ts, isi_bt, isi_bi, isi_bn, isi_bb, isi_bs, isi_st, isi_si, isi_sn, isi_sb, isi_ss, isi_it, isi_ii, isi_in, isi_ib, isi_is, at0, at1, at2, at3, ix0, ix1, ix2, ix3, whC_t, whC_f, whK_nx, whK_ct, whK_bk, whK_rt, List.map_cons, List.map_nil, List.length_cons, List.length_nil, List.replicate_succ, List.replicate_zero, List.set_cons_zero, List.set_cons_succ, List.cons_append, List.nil_append, List.append_nil, Nat.reduceAdd, Nat.reduceSub, Nat.sub_zero, Nat.sub_self, Nat.zero_add, List.getElem?_cons_zero, List.getElem?_cons_succ, decide_true, decide_false, Bool.not_true, Bool.not_false, List.isEmpty_cons, List.isEmpty_nil, Nat.reduceLeDiff, Nat.reduceSucc, x_Me, x_meK, x_Me0, ty_ss, ty_lo, ty_ll, ty_dd, ty_lr, ap_o, up_l, pop_o, pop_l, asT_o, tru_l, tru_d, ext_o, lsts_r, lsts_t, x_chain, in_ssF, in_ssT, in_t, in_r, in_o, inK_sF, inK_sT, flat_s, flat_i, List.all_cons, List.all_nil, Bool.and_true, Bool.true_and, rev_t, rev_r, sum_r, maxL_r, minL_r, any_r, all_r, inc_ii, x_aug, x_lc, x_lc2, lcEnd_f, lcEnd_t, x_yes, x_Sl, x_oN, x_oS, asI_i, sl_t, sl_r, cut1, js_nil, js_cons, add_or, x_raise, x_raiseI, rai_2, x_try, try_nx, try_rt, try_e0, try_e2, hot_bl, x_isx, isx_1, x_fld, fld_1, L_app, in_L, x_small, lit_ab, st, hb, ln, e4]
  · have hb : ((91 :: r).take 4 == [91, 45, 49, 93]) = false := by simpa using h
    rw [if_neg h]
    simp only [m__above_at, x_bnd, k_ok, k_exc, k_stuck, x_giv, x_fail, selM_t, selM_f, selS_t, selS_f, sK_ok, sK_exc, sK_stuck, x_seq, seq_nx, seq_bk, seq_ct, seq_rt, seq_exc, seq_stuck, x_ret, x_retN, x_exp, x_set, x_nil, x_brk, x_cnt, x_tgt, tK_ok, tK_stuck, x_asgK, x_asg, ifK_t, ifK_f, x_if, x_fgK, fK_bk, fK_rt, fK_exc, for_src, x_fpK, fpK_nx, fpK_ct, srcK_nil, srcK_rng, x_for, x_def, defK_rt, defK_nx, defK_exc, slot_some, x_slot, x_c, x_Nil, x_consK, x_cons, x_F, x_m2K, x_m2, x_m1, x_B, x_T, asB_bl, asT_bl, asT_int, asT_non, asT_tup, asT_rol, asT_frz, x_And, x_Or, andK_t, andK_f, orK_t, orK_f, x_Not, x_AndV, x_OrV, x_andVK, x_orVK, x_NotV, x_IfE, ifEK_t, ifEK_f, x_Tup, x_Lst, x_mkF, x_mkT, x_Call, add_ii, sub_ii, neg_i, cmp_ii, eq_ii, eq_bb, eq_ss, ne_ii, ne_ss, is_n, isnot_n, non_n, non_i, non_b, non_s, non_t, non_r, non_o, ix_t, ix_r, ix_f, lst_s, ix_oo, len_oo, srcL_oo, set_oo, setO_l, opt_s, len_t, len_r, len_f, abs_i, int_i, int_b, max_ii, min_ii, gcd_ii, list_f, list_r, list_t, tuple_r, tuple_t, x_It, x_Nm, x_Tp, x_gN, x_gC, x_iE, x_iF, srcL_f, srcL_r, srcT_t, srcS_s, x_Isi, isi_tt, isi_ti, isi_tn, isi_tb, isi_ts, isi_bt, isi_bi, isi_bn, isi_bb, isi_bs, isi_st, isi_si, isi_sn, isi_sb, isi_ss, isi_it, isi_ii, isi_in, isi_ib, isi_is, at0, at1, at2, at3, ix0, ix1, ix2, ix3, whC_t, whC_f, whK_nx, whK_ct, whK_bk, whK_rt, List.map_cons, List.map_nil, List.length_cons, List.length_nil, List.replicate_succ, List.replicate_zero, List.set_cons_zero, List.set_cons_succ, List.cons_append, List.nil_append, List.append_nil, Nat.reduceAdd, Nat.reduceSub, Nat.sub_zero, Nat.sub_self, Nat.zero_add, List.getElem?_cons_zero, List.getElem?_cons_succ, decide_true, decide_false, Bool.not_true, Bool.not_false, List.isEmpty_cons, List.isEmpty_nil, Nat.reduceLeDiff, Nat.reduceSucc, x_Me, x_meK, x_Me0, ty_ss, ty_lo, ty_ll, ty_dd, ty_lr, ap_o, up_l, pop_o, pop_l, asT_o, tru_l, tru_d, ext_o, lsts_r, lsts_t, x_chain, in_ssF, in_ssT, in_t, in_r, in_o, inK_sF, inK_sT, flat_s, flat_i, List.all_cons, List.all_nil, Bool.and_true, Bool.true_and, rev_t, rev_r, sum_r, maxL_r, minL_r, any_r, all_r, inc_ii, x_aug, x_lc, x_lc2, lcEnd_f, lcEnd_t, x_yes, x_Sl, x_oN, x_oS, asI_i, sl_t, sl_r, cut1, js_nil, js_cons, add_or, x_raise, x_raiseI, rai_2, x_try, try_nx, try_rt, try_e0, try_e2, hot_bl, x_isx, isx_1, x_fld, fld_1, L_app, in_L, x_small, lit_ab, st, hb]
/-! names -/
theorem name_agree {l s : List Nat} {i : Nat} (hs : l.drop i = s) (hi : i ≤ l.length) (hl : l.length ≤ 10000) :
    ∀ S, m__name_at [.str (L l), .int (i : Int)] S = if 20 < tw (pA ++ dg) s then .exc ⟨"FormulaError", [("reason", .str "name"), ("place", .int (i : Int))]⟩ S else
      .ok (.tup [.str (if inD (.str (L (s.take (tw (pA ++ dg) s)))) [.str "if", .str "and", .str "or", .str "not", .str "sum", .str "last", .str "floor"] then "word" else "name"), .str (L (s.take (tw (pA ++ dg) s))), .int ((i + tw (pA ++ dg) s : Nat) : Int)]) S := by
  intro S
  have n := at_len hs hi
  have tl := tw_le (pA ++ dg) s
  have ad := fun S => add_L (a := pA) (b := dg) (o := false) (S := S) (by decide)
  have rn := fun S => run_spec (al := pA ++ dg) hs hi hl S
  have sl := fun S => sl_at (o := false) (S := S) (k := tw (pA ++ dg) s) hs hi hl
  obtain ⟨w, hw⟩ : ∃ w, s.take (tw (pA ++ dg) s) = w := ⟨_, rfl⟩
  have wl : w.length = tw (pA ++ dg) s := by rw [← hw, List.length_take]; omega
  rw [hw] at sl ⊢
  have ln := fun S => len_L (l := w) (S := S) (by omega)
  rw [wl] at ln
  obtain ⟨a, ha⟩ : ∃ a, tw (pA ++ dg) s = a := ⟨_, rfl⟩
  rw [ha] at ln rn sl ⊢
  by_cases h : 20 < a
  · have hd : decide ((20 : Int) < (a : Int)) = true := decide_eq_true (by omega)
    rw [if_pos h]
    simp only [m__name_at, x_bnd, k_ok, k_exc, k_stuck, x_giv, x_fail, selM_t, selM_f, selS_t, selS_f, sK_ok, sK_exc, sK_stuck, x_seq, seq_nx, seq_bk, seq_ct, seq_rt, seq_exc, seq_stuck, x_ret, x_retN, x_exp, x_set, x_nil, x_brk, x_cnt, x_tgt, tK_ok, tK_stuck, x_asgK, x_asg, ifK_t, ifK_f, x_if, x_fgK, fK_bk, fK_rt, fK_exc, for_src, x_fpK, fpK_nx, fpK_ct, srcK_nil, srcK_rng, x_for, x_def, defK_rt, defK_nx, defK_exc, slot_some, x_slot, x_c, x_Nil, x_consK, x_cons, x_F, x_m2K, x_m2, x_m1, x_B, x_T, asB_bl, asT_bl, asT_int, asT_non, asT_tup, asT_rol, asT_frz, x_And, x_Or, andK_t, andK_f, orK_t, orK_f, x_Not, x_AndV, x_OrV, x_andVK, x_orVK, x_NotV, x_IfE, ifEK_t, ifEK_f, x_Tup, x_Lst, x_mkF, x_mkT, x_Call, add_ii, sub_ii, neg_i, cmp_ii, eq_ii, eq_bb, eq_ss, ne_ii, ne_ss, is_n, isnot_n, non_n, non_i, non_b, non_s, non_t, non_r, non_o, ix_t, ix_r, ix_f, lst_s, ix_oo, len_oo, srcL_oo, set_oo, setO_l, opt_s, len_t, len_r, len_f, abs_i, int_i, int_b, max_ii, min_ii, gcd_ii, list_f, list_r, list_t, tuple_r, tuple_t, x_It, x_Nm, x_Tp, x_gN, x_gC, x_iE, x_iF, srcL_f, srcL_r, srcT_t, srcS_s, x_Isi, isi_tt, isi_ti, isi_tn, isi_tb, isi_ts, isi_bt, isi_bi, isi_bn, isi_bb, isi_bs, isi_st, isi_si, isi_sn, isi_sb, isi_ss, isi_it, isi_ii, isi_in, isi_ib, isi_is, at0, at1, at2, at3, ix0, ix1, ix2, ix3, whC_t, whC_f, whK_nx, whK_ct, whK_bk, whK_rt, List.map_cons, List.map_nil, List.length_cons, List.length_nil, List.replicate_succ, List.replicate_zero, List.set_cons_zero, List.set_cons_succ, List.cons_append, List.nil_append, List.append_nil, Nat.reduceAdd, Nat.reduceSub, Nat.sub_zero, Nat.sub_self, Nat.zero_add, List.getElem?_cons_zero, List.getElem?_cons_succ, decide_true, decide_false, Bool.not_true, Bool.not_false, List.isEmpty_cons, List.isEmpty_nil, Nat.reduceLeDiff, Nat.reduceSucc, x_Me, x_meK, x_Me0, ty_ss, ty_lo, ty_ll, ty_dd, ty_lr, ap_o, up_l, pop_o, pop_l, asT_o, tru_l, tru_d, ext_o, lsts_r, lsts_t, x_chain, in_ssF, in_ssT, in_t, in_r, in_o, inK_sF, inK_sT, flat_s, flat_i, List.all_cons, List.all_nil, Bool.and_true, Bool.true_and, rev_t, rev_r, sum_r, maxL_r, minL_r, any_r, all_r, inc_ii, x_aug, x_lc, x_lc2, lcEnd_f, lcEnd_t, x_yes, x_Sl, x_oN, x_oS, asI_i, sl_t, sl_r, cut1, js_nil, js_cons, add_or, x_raise, x_raiseI, rai_2, x_try, try_nx, try_rt, try_e0, try_e2, hot_bl, x_isx, isx_1, x_fld, fld_1, L_app, in_L, x_small, lit_pA, lit_dg, ad, rn, sl, ln, hd, x_need]
  · have hd : decide ((20 : Int) < (a : Int)) = false := decide_eq_false (by omega)
    rw [if_neg h]
    cases hq : inD (.str (L w)) [.str "if", .str "and", .str "or", .str "not", .str "sum", .str "last", .str "floor"] with
    | true => simp only [m__name_at, x_bnd, k_ok, k_exc, k_stuck, x_giv, x_fail, selM_t, selM_f, selS_t, selS_f, sK_ok, sK_exc, sK_stuck, x_seq, seq_nx, seq_bk, seq_ct, seq_rt, seq_exc, seq_stuck, x_ret, x_retN, x_exp, x_set, x_nil, x_brk, x_cnt, x_tgt, tK_ok, tK_stuck, x_asgK, x_asg, ifK_t, ifK_f, x_if, x_fgK, fK_bk, fK_rt, fK_exc, for_src, x_fpK, fpK_nx, fpK_ct, srcK_nil, srcK_rng, x_for, x_def, defK_rt, defK_nx, defK_exc, slot_some, x_slot, x_c, x_Nil, x_consK, x_cons, x_F, x_m2K, x_m2, x_m1, x_B, x_T, asB_bl, asT_bl, asT_int, asT_non, asT_tup, asT_rol, asT_frz, x_And, x_Or, andK_t, andK_f, orK_t, orK_f, x_Not, x_AndV, x_OrV, x_andVK, x_orVK, x_NotV, x_IfE, ifEK_t, ifEK_f, x_Tup, x_Lst, x_mkF, x_mkT, x_Call, add_ii, sub_ii, neg_i, cmp_ii, eq_ii, eq_bb, eq_ss, ne_ii, ne_ss, is_n, isnot_n, non_n, non_i, non_b, non_s, non_t, non_r, non_o, ix_t, ix_r, ix_f, lst_s, ix_oo, len_oo, srcL_oo, set_oo, setO_l, opt_s, len_t, len_r, len_f, abs_i, int_i, int_b, max_ii, min_ii, gcd_ii, list_f, list_r, list_t, tuple_r, tuple_t, x_It, x_Nm, x_Tp, x_gN, x_gC, x_iE, x_iF, srcL_f, srcL_r, srcT_t, srcS_s, x_Isi, isi_tt, isi_ti, isi_tn, isi_tb, isi_ts, isi_bt, isi_bi, isi_bn, isi_bb, isi_bs, isi_st, isi_si, isi_sn, isi_sb, isi_ss, isi_it, isi_ii, isi_in, isi_ib, isi_is, at0, at1, at2, at3, ix0, ix1, ix2, ix3, whC_t, whC_f, whK_nx, whK_ct, whK_bk, whK_rt, List.map_cons, List.map_nil, List.length_cons, List.length_nil, List.replicate_succ, List.replicate_zero, List.set_cons_zero, List.set_cons_succ, List.cons_append, List.nil_append, List.append_nil, Nat.reduceAdd, Nat.reduceSub, Nat.sub_zero, Nat.sub_self, Nat.zero_add, List.getElem?_cons_zero, List.getElem?_cons_succ, decide_true, decide_false, Bool.not_true, Bool.not_false, List.isEmpty_cons, List.isEmpty_nil, Nat.reduceLeDiff, Nat.reduceSucc, x_Me, x_meK, x_Me0, ty_ss, ty_lo, ty_ll, ty_dd, ty_lr, ap_o, up_l, pop_o, pop_l, asT_o, tru_l, tru_d, ext_o, lsts_r, lsts_t, x_chain, in_ssF, in_ssT, in_t, in_r, in_o, inK_sF, inK_sT, flat_s, flat_i, List.all_cons, List.all_nil, Bool.and_true, Bool.true_and, rev_t, rev_r, sum_r, maxL_r, minL_r, any_r, all_r, inc_ii, x_aug, x_lc, x_lc2, lcEnd_f, lcEnd_t, x_yes, x_Sl, x_oN, x_oS, asI_i, sl_t, sl_r, cut1, js_nil, js_cons, add_or, x_raise, x_raiseI, rai_2, x_try, try_nx, try_rt, try_e0, try_e2, hot_bl, x_isx, isx_1, x_fld, fld_1, L_app, in_L, x_small, lit_pA, lit_dg, ad, rn, sl, ln, hd, x_need, hq]; rfl
    | false => simp only [m__name_at, x_bnd, k_ok, k_exc, k_stuck, x_giv, x_fail, selM_t, selM_f, selS_t, selS_f, sK_ok, sK_exc, sK_stuck, x_seq, seq_nx, seq_bk, seq_ct, seq_rt, seq_exc, seq_stuck, x_ret, x_retN, x_exp, x_set, x_nil, x_brk, x_cnt, x_tgt, tK_ok, tK_stuck, x_asgK, x_asg, ifK_t, ifK_f, x_if, x_fgK, fK_bk, fK_rt, fK_exc, for_src, x_fpK, fpK_nx, fpK_ct, srcK_nil, srcK_rng, x_for, x_def, defK_rt, defK_nx, defK_exc, slot_some, x_slot, x_c, x_Nil, x_consK, x_cons, x_F, x_m2K, x_m2, x_m1, x_B, x_T, asB_bl, asT_bl, asT_int, asT_non, asT_tup, asT_rol, asT_frz, x_And, x_Or, andK_t, andK_f, orK_t, orK_f, x_Not, x_AndV, x_OrV, x_andVK, x_orVK, x_NotV, x_IfE, ifEK_t, ifEK_f, x_Tup, x_Lst, x_mkF, x_mkT, x_Call, add_ii, sub_ii, neg_i, cmp_ii, eq_ii, eq_bb, eq_ss, ne_ii, ne_ss, is_n, isnot_n, non_n, non_i, non_b, non_s, non_t, non_r, non_o, ix_t, ix_r, ix_f, lst_s, ix_oo, len_oo, srcL_oo, set_oo, setO_l, opt_s, len_t, len_r, len_f, abs_i, int_i, int_b, max_ii, min_ii, gcd_ii, list_f, list_r, list_t, tuple_r, tuple_t, x_It, x_Nm, x_Tp, x_gN, x_gC, x_iE, x_iF, srcL_f, srcL_r, srcT_t, srcS_s, x_Isi, isi_tt, isi_ti, isi_tn, isi_tb, isi_ts, isi_bt, isi_bi, isi_bn, isi_bb, isi_bs, isi_st, isi_si, isi_sn, isi_sb, isi_ss, isi_it, isi_ii, isi_in, isi_ib, isi_is, at0, at1, at2, at3, ix0, ix1, ix2, ix3, whC_t, whC_f, whK_nx, whK_ct, whK_bk, whK_rt, List.map_cons, List.map_nil, List.length_cons, List.length_nil, List.replicate_succ, List.replicate_zero, List.set_cons_zero, List.set_cons_succ, List.cons_append, List.nil_append, List.append_nil, Nat.reduceAdd, Nat.reduceSub, Nat.sub_zero, Nat.sub_self, Nat.zero_add, List.getElem?_cons_zero, List.getElem?_cons_succ, decide_true, decide_false, Bool.not_true, Bool.not_false, List.isEmpty_cons, List.isEmpty_nil, Nat.reduceLeDiff, Nat.reduceSucc, x_Me, x_meK, x_Me0, ty_ss, ty_lo, ty_ll, ty_dd, ty_lr, ap_o, up_l, pop_o, pop_l, asT_o, tru_l, tru_d, ext_o, lsts_r, lsts_t, x_chain, in_ssF, in_ssT, in_t, in_r, in_o, inK_sF, inK_sT, flat_s, flat_i, List.all_cons, List.all_nil, Bool.and_true, Bool.true_and, rev_t, rev_r, sum_r, maxL_r, minL_r, any_r, all_r, inc_ii, x_aug, x_lc, x_lc2, lcEnd_f, lcEnd_t, x_yes, x_Sl, x_oN, x_oS, asI_i, sl_t, sl_r, cut1, js_nil, js_cons, add_or, x_raise, x_raiseI, rai_2, x_try, try_nx, try_rt, try_e0, try_e2, hot_bl, x_isx, isx_1, x_fld, fld_1, L_app, in_L, x_small, lit_pA, lit_dg, ad, rn, sl, ln, hd, x_need, hq]; rfl
/-! choices -/
theorem choice_agree {l r : List Nat} {i : Nat} (hs : l.drop i = 34 :: r) (hl : l.length ≤ 10000) :
    ∀ S, m__choice_at [.str (L l), .int (i : Int)] S = match fnd 34 r with
      | some k => if 1 ≤ k ∧ k ≤ 20 then .ok (.tup [.str "choice", .str (L (r.take k)), .int ((i + (k + 2) : Nat) : Int)]) S else .exc ⟨"FormulaError", [("reason", .str "choice"), ("place", .int (i : Int))]⟩ S
      | none => .exc ⟨"FormulaError", [("reason", .str "choice"), ("place", .int (i : Int))]⟩ S := by
  intro S
  have lt := at_lt hs
  have hs1 := at_next hs
  have n := at_len hs1 (by omega)
  have e1 : (i : Int) + 1 = ((i + 1 : Nat) : Int) := rfl
  have fd := fun S => find_at (S := S) (c := 34) hs1 (by omega)
  rcases fnd_spec 34 r with ⟨e, h⟩ | ⟨k, e, hk, g, a⟩
  · rw [e] at fd ⊢
    simp only at fd ⊢
    have sl := fun S => sl_L (a := l) (lo := some ((i + 1 : Nat) : Int)) (hi := some (-1)) (o := false) (S := S) (by omega)
    have z : decide ((-1 : Int) < 0) = true := rfl
    simp only [m__choice_at, x_bnd, k_ok, k_exc, k_stuck, x_giv, x_fail, selM_t, selM_f, selS_t, selS_f, sK_ok, sK_exc, sK_stuck, x_seq, seq_nx, seq_bk, seq_ct, seq_rt, seq_exc, seq_stuck, x_ret, x_retN, x_exp, x_set, x_nil, x_brk, x_cnt, x_tgt, tK_ok, tK_stuck, x_asgK, x_asg, ifK_t, ifK_f, x_if, x_fgK, fK_bk, fK_rt, fK_exc, for_src, x_fpK, fpK_nx, fpK_ct, srcK_nil, srcK_rng, x_for, x_def, defK_rt, defK_nx, defK_exc, slot_some, x_slot, x_c, x_Nil, x_consK, x_cons, x_F, x_m2K, x_m2, x_m1, x_B, x_T, asB_bl, asT_bl, asT_int, asT_non, asT_tup, asT_rol, asT_frz, x_And, x_Or, andK_t, andK_f, orK_t, orK_f, x_Not, x_AndV, x_OrV, x_andVK, x_orVK, x_NotV, x_IfE, ifEK_t, ifEK_f, x_Tup, x_Lst, x_mkF, x_mkT, x_Call, add_ii, sub_ii, neg_i, cmp_ii, eq_ii, eq_bb, eq_ss, ne_ii, ne_ss, is_n, isnot_n, non_n, non_i, non_b, non_s, non_t, non_r, non_o, ix_t, ix_r, ix_f, lst_s, ix_oo, len_oo, srcL_oo, set_oo, setO_l, opt_s, len_t, len_r, len_f, abs_i, int_i, int_b, max_ii, min_ii, gcd_ii, list_f, list_r, list_t, tuple_r, tuple_t, x_It, x_Nm, x_Tp, x_gN, x_gC, x_iE, x_iF, srcL_f, srcL_r, srcT_t, srcS_s, x_Isi, isi_tt, isi_ti, isi_tn, isi_tb, isi_ts, isi_bt, isi_bi, isi_bn, isi_bb, isi_bs, isi_st, isi_si, isi_sn, isi_sb, isi_ss, isi_it, isi_ii, isi_in, isi_ib, isi_is, at0, at1, at2, at3, ix0, ix1, ix2, ix3, whC_t, whC_f, whK_nx, whK_ct, whK_bk, whK_rt, List.map_cons, List.map_nil, List.length_cons, List.length_nil, List.replicate_succ, List.replicate_zero, List.set_cons_zero, List.set_cons_succ, List.cons_append, List.nil_append, List.append_nil, Nat.reduceAdd, Nat.reduceSub, Nat.sub_zero, Nat.sub_self, Nat.zero_add, List.getElem?_cons_zero, List.getElem?_cons_succ, decide_true, decide_false, Bool.not_true, Bool.not_false, List.isEmpty_cons, List.isEmpty_nil, Nat.reduceLeDiff, Nat.reduceSucc, x_Me, x_meK, x_Me0, ty_ss, ty_lo, ty_ll, ty_dd, ty_lr, ap_o, up_l, pop_o, pop_l, asT_o, tru_l, tru_d, ext_o, lsts_r, lsts_t, x_chain, in_ssF, in_ssT, in_t, in_r, in_o, inK_sF, inK_sT, flat_s, flat_i, List.all_cons, List.all_nil, Bool.and_true, Bool.true_and, rev_t, rev_r, sum_r, maxL_r, minL_r, any_r, all_r, inc_ii, x_aug, x_lc, x_lc2, lcEnd_f, lcEnd_t, x_yes, x_Sl, x_oN, x_oS, asI_i, sl_t, sl_r, cut1, js_nil, js_cons, add_or, x_raise, x_raiseI, rai_2, x_try, try_nx, try_rt, try_e0, try_e2, hot_bl, x_isx, isx_1, x_fld, fld_1, L_app, in_L, x_small, lit_q, e1, fd, sl, z]
  · rw [e] at fd ⊢
    simp only at fd ⊢
    have sl := fun S => sl_at (o := false) (S := S) (k := k) hs1 (by omega) hl
    have z : decide (((i + 1 + k : Nat) : Int) < 0) = false := decide_eq_false (by omega)
    have wl : (r.take k).length = k := by rw [List.length_take]; omega
    obtain ⟨w, hw⟩ : ∃ w, r.take k = w := ⟨_, rfl⟩
    rw [hw] at sl wl ⊢
    have ln := fun S => len_L (l := w) (S := S) (by omega)
    rw [wl] at ln
    have e2 : ((i + 1 + k : Nat) : Int) + 1 = ((i + (k + 2) : Nat) : Int) := by omega
    by_cases h : 1 ≤ k ∧ k ≤ 20
    · have h1 : decide ((1 : Int) ≤ (k : Int)) = true := decide_eq_true (by omega)
      have h2 : decide ((k : Int) ≤ 20) = true := decide_eq_true (by omega)
      rw [if_pos h]
      simp only [m__choice_at, x_bnd, k_ok, k_exc, k_stuck, x_giv, x_fail, selM_t, selM_f, selS_t, selS_f, sK_ok, sK_exc, sK_stuck, x_seq, seq_nx, seq_bk, seq_ct, seq_rt, seq_exc, seq_stuck, x_ret, x_retN, x_exp, x_set, x_nil, x_brk, x_cnt, x_tgt, tK_ok, tK_stuck, x_asgK, x_asg, ifK_t, ifK_f, x_if, x_fgK, fK_bk, fK_rt, fK_exc, for_src, x_fpK, fpK_nx, fpK_ct, srcK_nil, srcK_rng, x_for, x_def, defK_rt, defK_nx, defK_exc, slot_some, x_slot, x_c, x_Nil, x_consK, x_cons, x_F, x_m2K, x_m2, x_m1, x_B, x_T, asB_bl, asT_bl, asT_int, asT_non, asT_tup, asT_rol, asT_frz, x_And, x_Or, andK_t, andK_f, orK_t, orK_f, x_Not, x_AndV, x_OrV, x_andVK, x_orVK, x_NotV, x_IfE, ifEK_t, ifEK_f, x_Tup, x_Lst, x_mkF, x_mkT, x_Call, add_ii, sub_ii, neg_i, cmp_ii, eq_ii, eq_bb, eq_ss, ne_ii, ne_ss, is_n, isnot_n, non_n, non_i, non_b, non_s, non_t, non_r, non_o, ix_t, ix_r, ix_f, lst_s, ix_oo, len_oo, srcL_oo, set_oo, setO_l, opt_s, len_t, len_r, len_f, abs_i, int_i, int_b, max_ii, min_ii, gcd_ii, list_f, list_r, list_t, tuple_r, tuple_t, x_It, x_Nm, x_Tp, x_gN, x_gC, x_iE, x_iF, srcL_f, srcL_r, srcT_t, srcS_s, x_Isi, isi_tt, isi_ti, isi_tn, isi_tb, isi_ts, isi_bt, isi_bi, isi_bn, isi_bb, isi_bs, isi_st, isi_si, isi_sn, isi_sb, isi_ss, isi_it, isi_ii, isi_in, isi_ib, isi_is, at0, at1, at2, at3, ix0, ix1, ix2, ix3, whC_t, whC_f, whK_nx, whK_ct, whK_bk, whK_rt, List.map_cons, List.map_nil, List.length_cons, List.length_nil, List.replicate_succ, List.replicate_zero, List.set_cons_zero, List.set_cons_succ, List.cons_append, List.nil_append, List.append_nil, Nat.reduceAdd, Nat.reduceSub, Nat.sub_zero, Nat.sub_self, Nat.zero_add, List.getElem?_cons_zero, List.getElem?_cons_succ, decide_true, decide_false, Bool.not_true, Bool.not_false, List.isEmpty_cons, List.isEmpty_nil, Nat.reduceLeDiff, Nat.reduceSucc, x_Me, x_meK, x_Me0, ty_ss, ty_lo, ty_ll, ty_dd, ty_lr, ap_o, up_l, pop_o, pop_l, asT_o, tru_l, tru_d, ext_o, lsts_r, lsts_t, x_chain, in_ssF, in_ssT, in_t, in_r, in_o, inK_sF, inK_sT, flat_s, flat_i, List.all_cons, List.all_nil, Bool.and_true, Bool.true_and, rev_t, rev_r, sum_r, maxL_r, minL_r, any_r, all_r, inc_ii, x_aug, x_lc, x_lc2, lcEnd_f, lcEnd_t, x_yes, x_Sl, x_oN, x_oS, asI_i, sl_t, sl_r, cut1, js_nil, js_cons, add_or, x_raise, x_raiseI, rai_2, x_try, try_nx, try_rt, try_e0, try_e2, hot_bl, x_isx, isx_1, x_fld, fld_1, L_app, in_L, x_small, lit_q, e1, fd, sl, z, ln, h1, h2, e2, ite_true, ite_false, Bool.false_eq_true]
    · rw [if_neg h]
      by_cases h0 : 1 ≤ k
      · have h1 : decide ((1 : Int) ≤ (k : Int)) = true := decide_eq_true (by omega)
        have h2 : decide ((k : Int) ≤ 20) = false := decide_eq_false (by omega)
        simp only [m__choice_at, x_bnd, k_ok, k_exc, k_stuck, x_giv, x_fail, selM_t, selM_f, selS_t, selS_f, sK_ok, sK_exc, sK_stuck, x_seq, seq_nx, seq_bk, seq_ct, seq_rt, seq_exc, seq_stuck, x_ret, x_retN, x_exp, x_set, x_nil, x_brk, x_cnt, x_tgt, tK_ok, tK_stuck, x_asgK, x_asg, ifK_t, ifK_f, x_if, x_fgK, fK_bk, fK_rt, fK_exc, for_src, x_fpK, fpK_nx, fpK_ct, srcK_nil, srcK_rng, x_for, x_def, defK_rt, defK_nx, defK_exc, slot_some, x_slot, x_c, x_Nil, x_consK, x_cons, x_F, x_m2K, x_m2, x_m1, x_B, x_T, asB_bl, asT_bl, asT_int, asT_non, asT_tup, asT_rol, asT_frz, x_And, x_Or, andK_t, andK_f, orK_t, orK_f, x_Not, x_AndV, x_OrV, x_andVK, x_orVK, x_NotV, x_IfE, ifEK_t, ifEK_f, x_Tup, x_Lst, x_mkF, x_mkT, x_Call, add_ii, sub_ii, neg_i, cmp_ii, eq_ii, eq_bb, eq_ss, ne_ii, ne_ss, is_n, isnot_n, non_n, non_i, non_b, non_s, non_t, non_r, non_o, ix_t, ix_r, ix_f, lst_s, ix_oo, len_oo, srcL_oo, set_oo, setO_l, opt_s, len_t, len_r, len_f, abs_i, int_i, int_b, max_ii, min_ii, gcd_ii, list_f, list_r, list_t, tuple_r, tuple_t, x_It, x_Nm, x_Tp, x_gN, x_gC, x_iE, x_iF, srcL_f, srcL_r, srcT_t, srcS_s, x_Isi, isi_tt, isi_ti, isi_tn, isi_tb, isi_ts, isi_bt, isi_bi, isi_bn, isi_bb, isi_bs, isi_st, isi_si, isi_sn, isi_sb, isi_ss, isi_it, isi_ii, isi_in, isi_ib, isi_is, at0, at1, at2, at3, ix0, ix1, ix2, ix3, whC_t, whC_f, whK_nx, whK_ct, whK_bk, whK_rt, List.map_cons, List.map_nil, List.length_cons, List.length_nil, List.replicate_succ, List.replicate_zero, List.set_cons_zero, List.set_cons_succ, List.cons_append, List.nil_append, List.append_nil, Nat.reduceAdd, Nat.reduceSub, Nat.sub_zero, Nat.sub_self, Nat.zero_add, List.getElem?_cons_zero, List.getElem?_cons_succ, decide_true, decide_false, Bool.not_true, Bool.not_false, List.isEmpty_cons, List.isEmpty_nil, Nat.reduceLeDiff, Nat.reduceSucc, x_Me, x_meK, x_Me0, ty_ss, ty_lo, ty_ll, ty_dd, ty_lr, ap_o, up_l, pop_o, pop_l, asT_o, tru_l, tru_d, ext_o, lsts_r, lsts_t, x_chain, in_ssF, in_ssT, in_t, in_r, in_o, inK_sF, inK_sT, flat_s, flat_i, List.all_cons, List.all_nil, Bool.and_true, Bool.true_and, rev_t, rev_r, sum_r, maxL_r, minL_r, any_r, all_r, inc_ii, x_aug, x_lc, x_lc2, lcEnd_f, lcEnd_t, x_yes, x_Sl, x_oN, x_oS, asI_i, sl_t, sl_r, cut1, js_nil, js_cons, add_or, x_raise, x_raiseI, rai_2, x_try, try_nx, try_rt, try_e0, try_e2, hot_bl, x_isx, isx_1, x_fld, fld_1, L_app, in_L, x_small, lit_q, e1, fd, sl, z, ln, h1, h2, e2, ite_true, ite_false, Bool.false_eq_true]
      · have h1 : decide ((1 : Int) ≤ (k : Int)) = false := decide_eq_false (by omega)
        simp only [m__choice_at, x_bnd, k_ok, k_exc, k_stuck, x_giv, x_fail, selM_t, selM_f, selS_t, selS_f, sK_ok, sK_exc, sK_stuck, x_seq, seq_nx, seq_bk, seq_ct, seq_rt, seq_exc, seq_stuck, x_ret, x_retN, x_exp, x_set, x_nil, x_brk, x_cnt, x_tgt, tK_ok, tK_stuck, x_asgK, x_asg, ifK_t, ifK_f, x_if, x_fgK, fK_bk, fK_rt, fK_exc, for_src, x_fpK, fpK_nx, fpK_ct, srcK_nil, srcK_rng, x_for, x_def, defK_rt, defK_nx, defK_exc, slot_some, x_slot, x_c, x_Nil, x_consK, x_cons, x_F, x_m2K, x_m2, x_m1, x_B, x_T, asB_bl, asT_bl, asT_int, asT_non, asT_tup, asT_rol, asT_frz, x_And, x_Or, andK_t, andK_f, orK_t, orK_f, x_Not, x_AndV, x_OrV, x_andVK, x_orVK, x_NotV, x_IfE, ifEK_t, ifEK_f, x_Tup, x_Lst, x_mkF, x_mkT, x_Call, add_ii, sub_ii, neg_i, cmp_ii, eq_ii, eq_bb, eq_ss, ne_ii, ne_ss, is_n, isnot_n, non_n, non_i, non_b, non_s, non_t, non_r, non_o, ix_t, ix_r, ix_f, lst_s, ix_oo, len_oo, srcL_oo, set_oo, setO_l, opt_s, len_t, len_r, len_f, abs_i, int_i, int_b, max_ii, min_ii, gcd_ii, list_f, list_r, list_t, tuple_r, tuple_t, x_It, x_Nm, x_Tp, x_gN, x_gC, x_iE, x_iF, srcL_f, srcL_r, srcT_t, srcS_s, x_Isi, isi_tt, isi_ti, isi_tn, isi_tb, isi_ts, isi_bt, isi_bi, isi_bn, isi_bb, isi_bs, isi_st, isi_si, isi_sn, isi_sb, isi_ss, isi_it, isi_ii, isi_in, isi_ib, isi_is, at0, at1, at2, at3, ix0, ix1, ix2, ix3, whC_t, whC_f, whK_nx, whK_ct, whK_bk, whK_rt, List.map_cons, List.map_nil, List.length_cons, List.length_nil, List.replicate_succ, List.replicate_zero, List.set_cons_zero, List.set_cons_succ, List.cons_append, List.nil_append, List.append_nil, Nat.reduceAdd, Nat.reduceSub, Nat.sub_zero, Nat.sub_self, Nat.zero_add, List.getElem?_cons_zero, List.getElem?_cons_succ, decide_true, decide_false, Bool.not_true, Bool.not_false, List.isEmpty_cons, List.isEmpty_nil, Nat.reduceLeDiff, Nat.reduceSucc, x_Me, x_meK, x_Me0, ty_ss, ty_lo, ty_ll, ty_dd, ty_lr, ap_o, up_l, pop_o, pop_l, asT_o, tru_l, tru_d, ext_o, lsts_r, lsts_t, x_chain, in_ssF, in_ssT, in_t, in_r, in_o, inK_sF, inK_sT, flat_s, flat_i, List.all_cons, List.all_nil, Bool.and_true, Bool.true_and, rev_t, rev_r, sum_r, maxL_r, minL_r, any_r, all_r, inc_ii, x_aug, x_lc, x_lc2, lcEnd_f, lcEnd_t, x_yes, x_Sl, x_oN, x_oS, asI_i, sl_t, sl_r, cut1, js_nil, js_cons, add_or, x_raise, x_raiseI, rai_2, x_try, try_nx, try_rt, try_e0, try_e2, hot_bl, x_isx, isx_1, x_fld, fld_1, L_app, in_L, x_small, lit_q, e1, fd, sl, z, ln, h1, e2, ite_true, ite_false, Bool.false_eq_true]
/-! numbers -/
theorem mul_L (a : List Nat) (n : Nat) : Txt.mul (L a) (n : Int) = L (List.replicate n a).flatten := by
  unfold Txt.mul
  by_cases h : (n : Int) < 1
  · have h0 : n = 0 := by omega
    subst h0
    rw [if_pos h]
    rfl
  · rw [if_neg h]
    by_cases h1 : ((n : Int) == 1 || (L a).length == 0) = true
    · rw [if_pos h1]
      rw [L_len, Bool.or_eq_true, beq_iff_eq, beq_iff_eq] at h1
      rcases h1 with h1 | h1
      · have h2 : n = 1 := by omega
        subst h2
        simp
      · have h2 : a = [] := List.length_eq_zero_iff.mp h1
        subst h2
        simp
    · rw [if_neg h1]
      have key : ∀ (n : Nat) (b : List Nat), (List.replicate n a.toArray).foldl (· ++ ·) b.toArray = (b ++ (List.replicate n a).flatten).toArray := by
        intro n
        induction n with
        | zero => intro b; simp
        | succ n ih =>
          intro b
          rw [List.replicate_succ, List.foldl_cons, List.append_toArray, ih, List.replicate_succ, List.flatten_cons, List.append_assoc]
      have := key n []
      show (⟨(List.replicate (n : Int).toNat a.toArray).foldl (· ++ ·) #[]⟩ : Str) = _
      rw [Int.toNat_natCast, this, List.nil_append]
theorem mulS_L {a : List Nat} {n : Nat} {S : Store} (h : a.length * n ≤ 10000) (hn : n ≤ 1000) : dMulS (.str (L a)) (.int (n : Int)) S = .ok (.str (L (List.replicate n a).flatten)) S := by
  have h3 : (L a).length * ((n : Int)).toNat ≤ sizeLine := by rw [L_len, Int.toNat_natCast]; exact lnle (by omega)
  have h2 : (n : Int) < 2 ^ 31 := by omega
  have c : CMulS (L a) (n : Int) := And.intro (Int.natCast_nonneg n) (And.intro h2 h3)
  have e : need (CMulS (L a) (n : Int)) (giv (D.str (Txt.mul (L a) (n : Int)))) S = giv (D.str (Txt.mul (L a) (n : Int))) S := x_need c
  have e2 : dMulS (.str (L a)) (.int (n : Int)) S = giv (D.str (Txt.mul (L a) (n : Int))) S := e
  rw [e2, mul_L]
  rfl
theorem flat_one (n c : Nat) : (List.replicate n [c]).flatten = List.replicate n c := by
  induction n with
  | zero => rfl
  | succ n ih => rw [List.replicate_succ, List.flatten_cons, ih]; rfl
theorem val_ten : ∀ n, valL (49 :: List.replicate n 48) = 10 ^ n
  | 0 => rfl
  | n + 1 => by
    rw [List.replicate_succ', ← List.cons_append, val_snoc, val_ten n, Nat.pow_succ]
    omega
theorem ten_ne (n : Nat) : (((10 ^ n : Nat) : Int)) ≠ 0 := by
  have : 0 < 10 ^ n := Nat.pow_pos (by decide)
  omega
theorem ten_bit {n : Nat} (h : n ≤ 9) : bits (((10 ^ n : Nat)) : Int) 40 := by
  have : 10 ^ n ≤ 10 ^ 9 := Nat.pow_le_pow_right (by decide) h
  unfold bits
  rw [Int.natAbs_natCast]
  exact Nat.lt_of_le_of_lt this (by decide)
def numV (w ds : List Nat) : D := pr (fr ((valL (w ++ ds) : Nat) : Int) ((10 ^ ds.length : Nat) : Int))
/-- what both do with the digits -/
theorem num_facts {w ds : List Nat} (hw : Dg w) (hd : Dg ds) (hne : w ≠ []) (hl : (w ++ ds).length ≤ 9) :
    (∀ S, gInt [.str (L (w ++ ds))] S = .ok (.int (valL (w ++ ds) : Nat)) S) ∧ (∀ S, dMulS (.str (L [48])) (.int (ds.length : Int)) S = .ok (.str (L (List.replicate ds.length 48))) S) ∧
    (∀ S, dAdd false (.str (L [49])) (.str (L (List.replicate ds.length 48))) S = .ok (.str (L (49 :: List.replicate ds.length 48))) S) ∧ (∀ S, gInt [.str (L (49 :: List.replicate ds.length 48))] S = .ok (.int (10 ^ ds.length : Nat)) S) ∧
    (∀ S, m_fraction [.int (valL (w ++ ds) : Nat), .int (10 ^ ds.length : Nat)] S = .ok (numV w ds) S) ∧ (∀ S, m__law_fraction [.int (valL (w ++ ds) : Nat), .int (10 ^ ds.length : Nat)] S = .ok (numV w ds) S) := by
  have dl : ds.length ≤ 9 := by rw [List.length_append] at hl; omega
  refine ⟨fun S => gint_dg (fun c h => ?_) (by simp [hne]) (by omega), fun S => ?_, fun S => ?_, fun S => ?_, fun S => fraction_spec (ten_ne _) (ten_bit dl) (by decide) (by decide) S, fun S => lawfraction_spec (ten_ne _) (ten_bit dl) (by decide) (by decide) S⟩
  · rcases List.mem_append.mp h with h | h
    · exact hw c h
    · exact hd c h
  · rw [mulS_L (by simp; omega) (by omega), flat_one]
  · exact add_L (a := [49]) (by simp; omega)
  · rw [gint_dg (l := 49 :: List.replicate ds.length 48) (fun c h => ?_) (by simp) (by simp; omega), val_ten]
    rcases List.mem_cons.mp h with h | h
    · omega
    · have := List.eq_of_mem_replicate h
      omega
/-- the program's number with these decimals -/
theorem pnum {l s : List Nat} {i a : Nat} (hs : l.drop i = s) (hi : i ≤ l.length) (hl : l.length ≤ 10000) (ha : tw dg s = a) (h0 : 0 < a) {w ds : List Nat} (hw : s.take a = w) (hD : Dg ds) (hdl : ds.length ≤ l.length)
    {b : Bool} (st : ∀ S, gStartswith (.str (L l)) [.str (L [46]), .int ((i + a : Nat) : Int)] S = .ok (.bl b) S) (hb : b = false → ds = [])
    (sl2 : b = true → ∃ e : Nat, (∀ S, m__end_of_run [.str (L l), .int ((i + a + 1 : Nat) : Int), .str (L dg)] S = .ok (.int (e : Int)) S) ∧ ∀ S, dSl false (.str (L l)) (some ((i + a + 1 : Nat) : Int)) (some (e : Int)) S = .ok (.str (L ds)) S) :
    ∀ S, m__number_at [.str (L l), .int (i : Int)] S = if 9 < (w ++ ds).length then .exc ⟨"FormulaError", [("reason", .str "digits"), ("place", .int (i : Int))]⟩ S else
      .ok (.tup [.str "number", numV w ds, .int ((i + (a + if ds = [] then 0 else 1 + ds.length) : Nat) : Int)]) S := by
  intro S
  have n := at_len hs hi
  have tl := tw_le dg s
  have wl : w.length = a := by rw [← hw, List.length_take]; omega
  have hWd : Dg w := by rw [← hw, ← ha]; exact tw_dg s
  have hwne : w ≠ [] := fun z => by rw [z] at wl; simp at wl; omega
  have rn := fun S => run_spec (al := dg) hs hi hl S
  rw [ha] at rn
  have sl := fun S => sl_at (o := false) (S := S) (k := a) hs hi hl
  rw [hw] at sl
  have e1 : ((i + a : Nat) : Int) + 1 = ((i + a + 1 : Nat) : Int) := rfl
  have as := fun S => asT_L (l := ds) (S := S) (by omega)
  have ll := fun S => len_L (l := ds) (S := S) (by omega)
  have ad := fun S => add_L (a := w) (b := ds) (o := false) (S := S) (by omega)
  have lw := fun S => len_L (l := w ++ ds) (S := S) (by rw [List.length_append]; omega)
  obtain ⟨W, hW⟩ : ∃ W, (w ++ ds).length = W := ⟨_, rfl⟩
  rw [hW] at lw ⊢
  have e3 : ((i + a : Nat) : Int) + (1 + (ds.length : Int)) = ((i + (a + (1 + ds.length)) : Nat) : Int) := by omega
  by_cases hds : ds = []
  · have em : ds.isEmpty = true := by rw [hds]; rfl
    by_cases hn : 9 < W
    · have hd : decide ((9 : Int) < (W : Int)) = true := decide_eq_true (by omega)
      rw [if_pos hn]
      cases b with
      | true =>
        obtain ⟨e, r2, s2⟩ := sl2 rfl
        simp only [m__number_at, x_bnd, k_ok, k_exc, k_stuck, x_giv, x_fail, selM_t, selM_f, selS_t, selS_f, sK_ok, sK_exc, sK_stuck, x_seq, seq_nx, seq_bk, seq_ct, seq_rt, seq_exc, seq_stuck, x_ret, x_retN, x_exp, x_set, x_nil, x_brk, x_cnt, x_tgt, tK_ok, tK_stuck, x_asgK, x_asg, ifK_t, ifK_f, x_if, x_fgK, fK_bk, fK_rt, fK_exc, for_src, x_fpK, fpK_nx, fpK_ct, srcK_nil, srcK_rng, x_for, x_def, defK_rt, defK_nx, defK_exc, slot_some, x_slot, x_c, x_Nil, x_consK, x_cons, x_F, x_m2K, x_m2, x_m1, x_B, x_T, asB_bl, asT_bl, asT_int, asT_non, asT_tup, asT_rol, asT_frz, x_And, x_Or, andK_t, andK_f, orK_t, orK_f, x_Not, x_AndV, x_OrV, x_andVK, x_orVK, x_NotV, x_IfE, ifEK_t, ifEK_f, x_Tup, x_Lst, x_mkF, x_mkT, x_Call, add_ii, sub_ii, neg_i, cmp_ii, eq_ii, eq_bb, eq_ss, ne_ii, ne_ss, is_n, isnot_n, non_n, non_i, non_b, non_s, non_t, non_r, non_o, ix_t, ix_r, ix_f, lst_s, ix_oo, len_oo, srcL_oo, set_oo, setO_l, opt_s, len_t, len_r, len_f, abs_i, int_i, int_b, max_ii, min_ii, gcd_ii, list_f, list_r, list_t, tuple_r, tuple_t, x_It, x_Nm, x_Tp, x_gN, x_gC, x_iE, x_iF, srcL_f, srcL_r, srcT_t, srcS_s, x_Isi, isi_tt, isi_ti, isi_tn, isi_tb, isi_ts, isi_bt, isi_bi, isi_bn, isi_bb, isi_bs, isi_st, isi_si, isi_sn, isi_sb, isi_ss, isi_it, isi_ii, isi_in, isi_ib, isi_is, at0, at1, at2, at3, ix0, ix1, ix2, ix3, whC_t, whC_f, whK_nx, whK_ct, whK_bk, whK_rt, List.map_cons, List.map_nil, List.length_cons, List.length_nil, List.replicate_succ, List.replicate_zero, List.set_cons_zero, List.set_cons_succ, List.cons_append, List.nil_append, List.append_nil, Nat.reduceAdd, Nat.reduceSub, Nat.sub_zero, Nat.sub_self, Nat.zero_add, List.getElem?_cons_zero, List.getElem?_cons_succ, decide_true, decide_false, Bool.not_true, Bool.not_false, List.isEmpty_cons, List.isEmpty_nil, Nat.reduceLeDiff, Nat.reduceSucc, x_Me, x_meK, x_Me0, ty_ss, ty_lo, ty_ll, ty_dd, ty_lr, ap_o, up_l, pop_o, pop_l, asT_o, tru_l, tru_d, ext_o, lsts_r, lsts_t, x_chain, in_ssF, in_ssT, in_t, in_r, in_o, inK_sF, inK_sT, flat_s, flat_i, List.all_cons, List.all_nil, Bool.and_true, Bool.true_and, rev_t, rev_r, sum_r, maxL_r, minL_r, any_r, all_r, inc_ii, x_aug, x_lc, x_lc2, lcEnd_f, lcEnd_t, x_yes, x_Sl, x_oN, x_oS, asI_i, sl_t, sl_r, cut1, js_nil, js_cons, add_or, x_raise, x_raiseI, rai_2, x_try, try_nx, try_rt, try_e0, try_e2, hot_bl, x_isx, isx_1, x_fld, fld_1, L_app, in_L, x_small, x_need, lit_dg, lit_pt, lit_e, rn, sl, st, e1, r2, s2, as, em, Bool.not_true, ad, lw, hd]
      | false =>
        have lit_e' : PySem.Str.ofString "" = L ds := by rw [hds]; exact lit_e
        simp only [m__number_at, x_bnd, k_ok, k_exc, k_stuck, x_giv, x_fail, selM_t, selM_f, selS_t, selS_f, sK_ok, sK_exc, sK_stuck, x_seq, seq_nx, seq_bk, seq_ct, seq_rt, seq_exc, seq_stuck, x_ret, x_retN, x_exp, x_set, x_nil, x_brk, x_cnt, x_tgt, tK_ok, tK_stuck, x_asgK, x_asg, ifK_t, ifK_f, x_if, x_fgK, fK_bk, fK_rt, fK_exc, for_src, x_fpK, fpK_nx, fpK_ct, srcK_nil, srcK_rng, x_for, x_def, defK_rt, defK_nx, defK_exc, slot_some, x_slot, x_c, x_Nil, x_consK, x_cons, x_F, x_m2K, x_m2, x_m1, x_B, x_T, asB_bl, asT_bl, asT_int, asT_non, asT_tup, asT_rol, asT_frz, x_And, x_Or, andK_t, andK_f, orK_t, orK_f, x_Not, x_AndV, x_OrV, x_andVK, x_orVK, x_NotV, x_IfE, ifEK_t, ifEK_f, x_Tup, x_Lst, x_mkF, x_mkT, x_Call, add_ii, sub_ii, neg_i, cmp_ii, eq_ii, eq_bb, eq_ss, ne_ii, ne_ss, is_n, isnot_n, non_n, non_i, non_b, non_s, non_t, non_r, non_o, ix_t, ix_r, ix_f, lst_s, ix_oo, len_oo, srcL_oo, set_oo, setO_l, opt_s, len_t, len_r, len_f, abs_i, int_i, int_b, max_ii, min_ii, gcd_ii, list_f, list_r, list_t, tuple_r, tuple_t, x_It, x_Nm, x_Tp, x_gN, x_gC, x_iE, x_iF, srcL_f, srcL_r, srcT_t, srcS_s, x_Isi, isi_tt, isi_ti, isi_tn, isi_tb, isi_ts, isi_bt, isi_bi, isi_bn, isi_bb, isi_bs, isi_st, isi_si, isi_sn, isi_sb, isi_ss, isi_it, isi_ii, isi_in, isi_ib, isi_is, at0, at1, at2, at3, ix0, ix1, ix2, ix3, whC_t, whC_f, whK_nx, whK_ct, whK_bk, whK_rt, List.map_cons, List.map_nil, List.length_cons, List.length_nil, List.replicate_succ, List.replicate_zero, List.set_cons_zero, List.set_cons_succ, List.cons_append, List.nil_append, List.append_nil, Nat.reduceAdd, Nat.reduceSub, Nat.sub_zero, Nat.sub_self, Nat.zero_add, List.getElem?_cons_zero, List.getElem?_cons_succ, decide_true, decide_false, Bool.not_true, Bool.not_false, List.isEmpty_cons, List.isEmpty_nil, Nat.reduceLeDiff, Nat.reduceSucc, x_Me, x_meK, x_Me0, ty_ss, ty_lo, ty_ll, ty_dd, ty_lr, ap_o, up_l, pop_o, pop_l, asT_o, tru_l, tru_d, ext_o, lsts_r, lsts_t, x_chain, in_ssF, in_ssT, in_t, in_r, in_o, inK_sF, inK_sT, flat_s, flat_i, List.all_cons, List.all_nil, Bool.and_true, Bool.true_and, rev_t, rev_r, sum_r, maxL_r, minL_r, any_r, all_r, inc_ii, x_aug, x_lc, x_lc2, lcEnd_f, lcEnd_t, x_yes, x_Sl, x_oN, x_oS, asI_i, sl_t, sl_r, cut1, js_nil, js_cons, add_or, x_raise, x_raiseI, rai_2, x_try, try_nx, try_rt, try_e0, try_e2, hot_bl, x_isx, isx_1, x_fld, fld_1, L_app, in_L, x_small, x_need, lit_dg, lit_pt, lit_e', rn, sl, st, as, em, Bool.not_true, ad, lw, hd]
    · have hd : decide ((9 : Int) < (W : Int)) = false := decide_eq_false (by omega)
      obtain ⟨f1, f2, f3, f4, f5, _⟩ := num_facts hWd hD hwne (by omega)
      rw [if_neg hn, if_pos hds, Nat.add_zero]
      cases b with
      | true =>
        obtain ⟨e, r2, s2⟩ := sl2 rfl
        simp only [m__number_at, x_bnd, k_ok, k_exc, k_stuck, x_giv, x_fail, selM_t, selM_f, selS_t, selS_f, sK_ok, sK_exc, sK_stuck, x_seq, seq_nx, seq_bk, seq_ct, seq_rt, seq_exc, seq_stuck, x_ret, x_retN, x_exp, x_set, x_nil, x_brk, x_cnt, x_tgt, tK_ok, tK_stuck, x_asgK, x_asg, ifK_t, ifK_f, x_if, x_fgK, fK_bk, fK_rt, fK_exc, for_src, x_fpK, fpK_nx, fpK_ct, srcK_nil, srcK_rng, x_for, x_def, defK_rt, defK_nx, defK_exc, slot_some, x_slot, x_c, x_Nil, x_consK, x_cons, x_F, x_m2K, x_m2, x_m1, x_B, x_T, asB_bl, asT_bl, asT_int, asT_non, asT_tup, asT_rol, asT_frz, x_And, x_Or, andK_t, andK_f, orK_t, orK_f, x_Not, x_AndV, x_OrV, x_andVK, x_orVK, x_NotV, x_IfE, ifEK_t, ifEK_f, x_Tup, x_Lst, x_mkF, x_mkT, x_Call, add_ii, sub_ii, neg_i, cmp_ii, eq_ii, eq_bb, eq_ss, ne_ii, ne_ss, is_n, isnot_n, non_n, non_i, non_b, non_s, non_t, non_r, non_o, ix_t, ix_r, ix_f, lst_s, ix_oo, len_oo, srcL_oo, set_oo, setO_l, opt_s, len_t, len_r, len_f, abs_i, int_i, int_b, max_ii, min_ii, gcd_ii, list_f, list_r, list_t, tuple_r, tuple_t, x_It, x_Nm, x_Tp, x_gN, x_gC, x_iE, x_iF, srcL_f, srcL_r, srcT_t, srcS_s, x_Isi, isi_tt, isi_ti, isi_tn, isi_tb, isi_ts, isi_bt, isi_bi, isi_bn, isi_bb, isi_bs, isi_st, isi_si, isi_sn, isi_sb, isi_ss, isi_it, isi_ii, isi_in, isi_ib, isi_is, at0, at1, at2, at3, ix0, ix1, ix2, ix3, whC_t, whC_f, whK_nx, whK_ct, whK_bk, whK_rt, List.map_cons, List.map_nil, List.length_cons, List.length_nil, List.replicate_succ, List.replicate_zero, List.set_cons_zero, List.set_cons_succ, List.cons_append, List.nil_append, List.append_nil, Nat.reduceAdd, Nat.reduceSub, Nat.sub_zero, Nat.sub_self, Nat.zero_add, List.getElem?_cons_zero, List.getElem?_cons_succ, decide_true, decide_false, Bool.not_true, Bool.not_false, List.isEmpty_cons, List.isEmpty_nil, Nat.reduceLeDiff, Nat.reduceSucc, x_Me, x_meK, x_Me0, ty_ss, ty_lo, ty_ll, ty_dd, ty_lr, ap_o, up_l, pop_o, pop_l, asT_o, tru_l, tru_d, ext_o, lsts_r, lsts_t, x_chain, in_ssF, in_ssT, in_t, in_r, in_o, inK_sF, inK_sT, flat_s, flat_i, List.all_cons, List.all_nil, Bool.and_true, Bool.true_and, rev_t, rev_r, sum_r, maxL_r, minL_r, any_r, all_r, inc_ii, x_aug, x_lc, x_lc2, lcEnd_f, lcEnd_t, x_yes, x_Sl, x_oN, x_oS, asI_i, sl_t, sl_r, cut1, js_nil, js_cons, add_or, x_raise, x_raiseI, rai_2, x_try, try_nx, try_rt, try_e0, try_e2, hot_bl, x_isx, isx_1, x_fld, fld_1, L_app, in_L, x_small, x_need, lit_dg, lit_pt, lit_e, lit_0, lit_1, rn, sl, st, e1, r2, s2, as, em, Bool.not_true, ad, lw, hd, ll, ↓f1, f2, f3, ↓f4, ↓f5]
      | false =>
        have lit_e' : PySem.Str.ofString "" = L ds := by rw [hds]; exact lit_e
        simp only [m__number_at, x_bnd, k_ok, k_exc, k_stuck, x_giv, x_fail, selM_t, selM_f, selS_t, selS_f, sK_ok, sK_exc, sK_stuck, x_seq, seq_nx, seq_bk, seq_ct, seq_rt, seq_exc, seq_stuck, x_ret, x_retN, x_exp, x_set, x_nil, x_brk, x_cnt, x_tgt, tK_ok, tK_stuck, x_asgK, x_asg, ifK_t, ifK_f, x_if, x_fgK, fK_bk, fK_rt, fK_exc, for_src, x_fpK, fpK_nx, fpK_ct, srcK_nil, srcK_rng, x_for, x_def, defK_rt, defK_nx, defK_exc, slot_some, x_slot, x_c, x_Nil, x_consK, x_cons, x_F, x_m2K, x_m2, x_m1, x_B, x_T, asB_bl, asT_bl, asT_int, asT_non, asT_tup, asT_rol, asT_frz, x_And, x_Or, andK_t, andK_f, orK_t, orK_f, x_Not, x_AndV, x_OrV, x_andVK, x_orVK, x_NotV, x_IfE, ifEK_t, ifEK_f, x_Tup, x_Lst, x_mkF, x_mkT, x_Call, add_ii, sub_ii, neg_i, cmp_ii, eq_ii, eq_bb, eq_ss, ne_ii, ne_ss, is_n, isnot_n, non_n, non_i, non_b, non_s, non_t, non_r, non_o, ix_t, ix_r, ix_f, lst_s, ix_oo, len_oo, srcL_oo, set_oo, setO_l, opt_s, len_t, len_r, len_f, abs_i, int_i, int_b, max_ii, min_ii, gcd_ii, list_f, list_r, list_t, tuple_r, tuple_t, x_It, x_Nm, x_Tp, x_gN, x_gC, x_iE, x_iF, srcL_f, srcL_r, srcT_t, srcS_s, x_Isi, isi_tt, isi_ti, isi_tn, isi_tb, isi_ts, isi_bt, isi_bi, isi_bn, isi_bb, isi_bs, isi_st, isi_si, isi_sn, isi_sb, isi_ss, isi_it, isi_ii, isi_in, isi_ib, isi_is, at0, at1, at2, at3, ix0, ix1, ix2, ix3, whC_t, whC_f, whK_nx, whK_ct, whK_bk, whK_rt, List.map_cons, List.map_nil, List.length_cons, List.length_nil, List.replicate_succ, List.replicate_zero, List.set_cons_zero, List.set_cons_succ, List.cons_append, List.nil_append, List.append_nil, Nat.reduceAdd, Nat.reduceSub, Nat.sub_zero, Nat.sub_self, Nat.zero_add, List.getElem?_cons_zero, List.getElem?_cons_succ, decide_true, decide_false, Bool.not_true, Bool.not_false, List.isEmpty_cons, List.isEmpty_nil, Nat.reduceLeDiff, Nat.reduceSucc, x_Me, x_meK, x_Me0, ty_ss, ty_lo, ty_ll, ty_dd, ty_lr, ap_o, up_l, pop_o, pop_l, asT_o, tru_l, tru_d, ext_o, lsts_r, lsts_t, x_chain, in_ssF, in_ssT, in_t, in_r, in_o, inK_sF, inK_sT, flat_s, flat_i, List.all_cons, List.all_nil, Bool.and_true, Bool.true_and, rev_t, rev_r, sum_r, maxL_r, minL_r, any_r, all_r, inc_ii, x_aug, x_lc, x_lc2, lcEnd_f, lcEnd_t, x_yes, x_Sl, x_oN, x_oS, asI_i, sl_t, sl_r, cut1, js_nil, js_cons, add_or, x_raise, x_raiseI, rai_2, x_try, try_nx, try_rt, try_e0, try_e2, hot_bl, x_isx, isx_1, x_fld, fld_1, L_app, in_L, x_small, x_need, lit_dg, lit_pt, lit_e', lit_0, lit_1, rn, sl, st, as, em, Bool.not_true, ad, lw, hd, ll, ↓f1, f2, f3, ↓f4, ↓f5]
  · have em : ds.isEmpty = false := by cases ds with
      | nil => exact absurd rfl hds
      | cons _ _ => rfl
    cases b with
    | false => exact absurd (hb rfl) hds
    | true =>
      obtain ⟨e, r2, s2⟩ := sl2 rfl
      by_cases hn : 9 < W
      · have hd : decide ((9 : Int) < (W : Int)) = true := decide_eq_true (by omega)
        rw [if_pos hn]
        simp only [m__number_at, x_bnd, k_ok, k_exc, k_stuck, x_giv, x_fail, selM_t, selM_f, selS_t, selS_f, sK_ok, sK_exc, sK_stuck, x_seq, seq_nx, seq_bk, seq_ct, seq_rt, seq_exc, seq_stuck, x_ret, x_retN, x_exp, x_set, x_nil, x_brk, x_cnt, x_tgt, tK_ok, tK_stuck, x_asgK, x_asg, ifK_t, ifK_f, x_if, x_fgK, fK_bk, fK_rt, fK_exc, for_src, x_fpK, fpK_nx, fpK_ct, srcK_nil, srcK_rng, x_for, x_def, defK_rt, defK_nx, defK_exc, slot_some, x_slot, x_c, x_Nil, x_consK, x_cons, x_F, x_m2K, x_m2, x_m1, x_B, x_T, asB_bl, asT_bl, asT_int, asT_non, asT_tup, asT_rol, asT_frz, x_And, x_Or, andK_t, andK_f, orK_t, orK_f, x_Not, x_AndV, x_OrV, x_andVK, x_orVK, x_NotV, x_IfE, ifEK_t, ifEK_f, x_Tup, x_Lst, x_mkF, x_mkT, x_Call, add_ii, sub_ii, neg_i, cmp_ii, eq_ii, eq_bb, eq_ss, ne_ii, ne_ss, is_n, isnot_n, non_n, non_i, non_b, non_s, non_t, non_r, non_o, ix_t, ix_r, ix_f, lst_s, ix_oo, len_oo, srcL_oo, set_oo, setO_l, opt_s, len_t, len_r, len_f, abs_i, int_i, int_b, max_ii, min_ii, gcd_ii, list_f, list_r, list_t, tuple_r, tuple_t, x_It, x_Nm, x_Tp, x_gN, x_gC, x_iE, x_iF, srcL_f, srcL_r, srcT_t, srcS_s, x_Isi, isi_tt, isi_ti, isi_tn, isi_tb, isi_ts, isi_bt, isi_bi, isi_bn, isi_bb, isi_bs, isi_st, isi_si, isi_sn, isi_sb, isi_ss, isi_it, isi_ii, isi_in, isi_ib, isi_is, at0, at1, at2, at3, ix0, ix1, ix2, ix3, whC_t, whC_f, whK_nx, whK_ct, whK_bk, whK_rt, List.map_cons, List.map_nil, List.length_cons, List.length_nil, List.replicate_succ, List.replicate_zero, List.set_cons_zero, List.set_cons_succ, List.cons_append, List.nil_append, List.append_nil, Nat.reduceAdd, Nat.reduceSub, Nat.sub_zero, Nat.sub_self, Nat.zero_add, List.getElem?_cons_zero, List.getElem?_cons_succ, decide_true, decide_false, Bool.not_true, Bool.not_false, List.isEmpty_cons, List.isEmpty_nil, Nat.reduceLeDiff, Nat.reduceSucc, x_Me, x_meK, x_Me0, ty_ss, ty_lo, ty_ll, ty_dd, ty_lr, ap_o, up_l, pop_o, pop_l, asT_o, tru_l, tru_d, ext_o, lsts_r, lsts_t, x_chain, in_ssF, in_ssT, in_t, in_r, in_o, inK_sF, inK_sT, flat_s, flat_i, List.all_cons, List.all_nil, Bool.and_true, Bool.true_and, rev_t, rev_r, sum_r, maxL_r, minL_r, any_r, all_r, inc_ii, x_aug, x_lc, x_lc2, lcEnd_f, lcEnd_t, x_yes, x_Sl, x_oN, x_oS, asI_i, sl_t, sl_r, cut1, js_nil, js_cons, add_or, x_raise, x_raiseI, rai_2, x_try, try_nx, try_rt, try_e0, try_e2, hot_bl, x_isx, isx_1, x_fld, fld_1, L_app, in_L, x_small, x_need, x_sBnd, inc_ii, lit_dg, lit_pt, lit_e, rn, sl, st, e1, r2, s2, as, em, Bool.not_false, ad, lw, hd, ll, e3]
      · have hd : decide ((9 : Int) < (W : Int)) = false := decide_eq_false (by omega)
        obtain ⟨f1, f2, f3, f4, f5, _⟩ := num_facts hWd hD hwne (by omega)
        rw [if_neg hn, if_neg hds]
        simp only [m__number_at, x_bnd, k_ok, k_exc, k_stuck, x_giv, x_fail, selM_t, selM_f, selS_t, selS_f, sK_ok, sK_exc, sK_stuck, x_seq, seq_nx, seq_bk, seq_ct, seq_rt, seq_exc, seq_stuck, x_ret, x_retN, x_exp, x_set, x_nil, x_brk, x_cnt, x_tgt, tK_ok, tK_stuck, x_asgK, x_asg, ifK_t, ifK_f, x_if, x_fgK, fK_bk, fK_rt, fK_exc, for_src, x_fpK, fpK_nx, fpK_ct, srcK_nil, srcK_rng, x_for, x_def, defK_rt, defK_nx, defK_exc, slot_some, x_slot, x_c, x_Nil, x_consK, x_cons, x_F, x_m2K, x_m2, x_m1, x_B, x_T, asB_bl, asT_bl, asT_int, asT_non, asT_tup, asT_rol, asT_frz, x_And, x_Or, andK_t, andK_f, orK_t, orK_f, x_Not, x_AndV, x_OrV, x_andVK, x_orVK, x_NotV, x_IfE, ifEK_t, ifEK_f, x_Tup, x_Lst, x_mkF, x_mkT, x_Call, add_ii, sub_ii, neg_i, cmp_ii, eq_ii, eq_bb, eq_ss, ne_ii, ne_ss, is_n, isnot_n, non_n, non_i, non_b, non_s, non_t, non_r, non_o, ix_t, ix_r, ix_f, lst_s, ix_oo, len_oo, srcL_oo, set_oo, setO_l, opt_s, len_t, len_r, len_f, abs_i, int_i, int_b, max_ii, min_ii, gcd_ii, list_f, list_r, list_t, tuple_r, tuple_t, x_It, x_Nm, x_Tp, x_gN, x_gC, x_iE, x_iF, srcL_f, srcL_r, srcT_t, srcS_s, x_Isi, isi_tt, isi_ti, isi_tn, isi_tb, isi_ts, isi_bt, isi_bi, isi_bn, isi_bb, isi_bs, isi_st, isi_si, isi_sn, isi_sb, isi_ss, isi_it, isi_ii, isi_in, isi_ib, isi_is, at0, at1, at2, at3, ix0, ix1, ix2, ix3, whC_t, whC_f, whK_nx, whK_ct, whK_bk, whK_rt, List.map_cons, List.map_nil, List.length_cons, List.length_nil, List.replicate_succ, List.replicate_zero, List.set_cons_zero, List.set_cons_succ, List.cons_append, List.nil_append, List.append_nil, Nat.reduceAdd, Nat.reduceSub, Nat.sub_zero, Nat.sub_self, Nat.zero_add, List.getElem?_cons_zero, List.getElem?_cons_succ, decide_true, decide_false, Bool.not_true, Bool.not_false, List.isEmpty_cons, List.isEmpty_nil, Nat.reduceLeDiff, Nat.reduceSucc, x_Me, x_meK, x_Me0, ty_ss, ty_lo, ty_ll, ty_dd, ty_lr, ap_o, up_l, pop_o, pop_l, asT_o, tru_l, tru_d, ext_o, lsts_r, lsts_t, x_chain, in_ssF, in_ssT, in_t, in_r, in_o, inK_sF, inK_sT, flat_s, flat_i, List.all_cons, List.all_nil, Bool.and_true, Bool.true_and, rev_t, rev_r, sum_r, maxL_r, minL_r, any_r, all_r, inc_ii, x_aug, x_lc, x_lc2, lcEnd_f, lcEnd_t, x_yes, x_Sl, x_oN, x_oS, asI_i, sl_t, sl_r, cut1, js_nil, js_cons, add_or, x_raise, x_raiseI, rai_2, x_try, try_nx, try_rt, try_e0, try_e2, hot_bl, x_isx, isx_1, x_fld, fld_1, L_app, in_L, x_small, x_need, x_sBnd, inc_ii, lit_dg, lit_pt, lit_e, lit_0, lit_1, rn, sl, st, e1, r2, s2, as, em, Bool.not_false, ad, lw, hd, ll, ↓f1, f2, f3, ↓f4, ↓f5, e3]
end K09

set_option Elab.async false
set_option linter.all false
set_option maxHeartbeats 4000000
set_option maxRecDepth 100000
set_option exponentiation.threshold 10000
namespace K09
open PySem PySem.Spec PyProof.Rows L2 Py
/-! the law's number -/
theorem pow_loop (n : Nat) (hn : n ≤ 9) (o0 o1 o2 o3 o4 o6 o7 : Option D) (S : Store) : ∃ o7', forP (gNm 7) L__law_number_token_1 ((List.range ((n : Int) - 0).toNat).map fun (j : Nat) => .int (0 + (j : Int))) [o0, o1, o2, o3, o4, some (.int 1), o6, o7] S = .nx [o0, o1, o2, o3, o4, some (.int ((10 ^ n : Nat) : Int)), o6, o7'] S := by
  obtain ⟨env', S', e, ⟨o, rfl⟩, rfl⟩ := for_range (b := L__law_number_token_1) (t := 7) (n := n) (z := (n : Int)) rfl (fun i env S' => (∃ o, env = [o0, o1, o2, o3, o4, some (.int ((10 ^ i : Nat) : Int)), o6, o]) ∧ S' = S)
    (fun i env S' hi ⟨⟨o, he⟩, hs⟩ => by
      subst he hs
      have b := ten_bit (n := i) (by omega)
      have c : CMulW (((10 ^ i : Nat) : Int)) 10 := b.cmul (m := 4) (by unfold bits; decide) (by decide) (by decide) (by decide)
      have e : ((10 ^ i : Nat) : Int) * 10 = ((10 ^ (i + 1) : Nat) : Int) := by rw [Nat.pow_succ]; omega
      refine ⟨[o0, o1, o2, o3, o4, some (.int ((10 ^ (i + 1) : Nat) : Int)), o6, some (.int i)], S', ?_, ⟨_, rfl⟩, rfl⟩
      simp only [L__law_number_token_1, x_bnd, k_ok, k_exc, k_stuck, x_giv, x_fail, selM_t, selM_f, selS_t, selS_f, sK_ok, sK_exc, sK_stuck, x_seq, seq_nx, seq_bk, seq_ct, seq_rt, seq_exc, seq_stuck, x_ret, x_retN, x_exp, x_set, x_nil, x_brk, x_cnt, x_tgt, tK_ok, tK_stuck, x_asgK, x_asg, ifK_t, ifK_f, x_if, x_fgK, fK_bk, fK_rt, fK_exc, for_src, x_fpK, fpK_nx, fpK_ct, srcK_nil, srcK_rng, x_for, x_def, defK_rt, defK_nx, defK_exc, slot_some, x_slot, x_c, x_Nil, x_consK, x_cons, x_F, x_m2K, x_m2, x_m1, x_B, x_T, asB_bl, asT_bl, asT_int, asT_non, asT_tup, asT_rol, asT_frz, x_And, x_Or, andK_t, andK_f, orK_t, orK_f, x_Not, x_AndV, x_OrV, x_andVK, x_orVK, x_NotV, x_IfE, ifEK_t, ifEK_f, x_Tup, x_Lst, x_mkF, x_mkT, x_Call, add_ii, sub_ii, neg_i, cmp_ii, eq_ii, eq_bb, eq_ss, ne_ii, ne_ss, is_n, isnot_n, non_n, non_i, non_b, non_s, non_t, non_r, non_o, ix_t, ix_r, ix_f, lst_s, ix_oo, len_oo, srcL_oo, set_oo, setO_l, opt_s, len_t, len_r, len_f, abs_i, int_i, int_b, max_ii, min_ii, gcd_ii, list_f, list_r, list_t, tuple_r, tuple_t, x_It, x_Nm, x_Tp, x_gN, x_gC, x_iE, x_iF, srcL_f, srcL_r, srcT_t, srcS_s, x_Isi, isi_tt, isi_ti, isi_tn, isi_tb, isi_ts, isi_bt, isi_bi, isi_bn, isi_bb, isi_bs, isi_st, isi_si, isi_sn, isi_sb, isi_ss, isi_it, isi_ii, isi_in, isi_ib, isi_is, at0, at1, at2, at3, ix0, ix1, ix2, ix3, whC_t, whC_f, whK_nx, whK_ct, whK_bk, whK_rt, List.map_cons, List.map_nil, List.length_cons, List.length_nil, List.replicate_succ, List.replicate_zero, List.set_cons_zero, List.set_cons_succ, List.cons_append, List.nil_append, List.append_nil, Nat.reduceAdd, Nat.reduceSub, Nat.sub_zero, Nat.sub_self, Nat.zero_add, List.getElem?_cons_zero, List.getElem?_cons_succ, decide_true, decide_false, Bool.not_true, Bool.not_false, List.isEmpty_cons, List.isEmpty_nil, Nat.reduceLeDiff, Nat.reduceSucc, x_Me, x_meK, x_Me0, ty_ss, ty_lo, ty_ll, ty_dd, ty_lr, ap_o, up_l, pop_o, pop_l, asT_o, tru_l, tru_d, ext_o, lsts_r, lsts_t, x_chain, in_ssF, in_ssT, in_t, in_r, in_o, inK_sF, inK_sT, flat_s, flat_i, List.all_cons, List.all_nil, Bool.and_true, Bool.true_and, rev_t, rev_r, sum_r, maxL_r, minL_r, any_r, all_r, inc_ii, x_aug, x_lc, x_lc2, lcEnd_f, lcEnd_t, x_yes, x_Sl, x_oN, x_oS, asI_i, sl_t, sl_r, cut1, js_nil, js_cons, add_or, x_raise, x_raiseI, rai_2, x_try, try_nx, try_rt, try_e0, try_e2, hot_bl, x_isx, isx_1, x_fld, fld_1, L_app, in_L, x_small, mul_ii c, e]) (env := [o0, o1, o2, o3, o4, some (.int 1), o6, o7]) (S := S) ⟨⟨o7, rfl⟩, rfl⟩
  exact ⟨o, e⟩
abbrev condN : MT := (mAnd (mB (m2 dEq (mSl false (mSlot 0) (moSome (mSlot 3)) (moSome (m2 (dAdd false) (mSlot 3) (mC (.int 1))))) (mC (.str ".")))) (mAnd (mB (m2 (dCmp fun i j => decide (i < j)) (m2 (dAdd false) (mSlot 3) (mC (.int 1))) (mF gLen (mCons (mSlot 0) mNil)))) (mB (m2 (dIn false) (m2 dIx (mSlot 0) (m2 (dAdd false) (mSlot 3) (mC (.int 1)))) (mSlot 2)))))
/-- no decimals -/
theorem lnumB {l s : List Nat} {i a : Nat} (hs : l.drop i = s) (hi : i ≤ l.length) (hl : l.length ≤ 10000) (ha : tw dg s = a) (h0 : 0 < a) {w : List Nat} (hw : s.take a = w)
    (cd : ∀ S, condN [some (.str (L l)), some (.int (i : Int)), some (.str (L dg)), some (.int ((i + a : Nat) : Int)), some (.str (L w)), some (.int 1), none, none] S = .ok false S) :
    ∀ S, m__law_number_token [.str (L l), .int (i : Int)] S = if 9 < w.length then .ok (.str "digits") S else .ok (.tup [.int ((i + a : Nat) : Int), .str "number", numV w []]) S := by
  intro S
  have n := at_len hs hi
  have tl := tw_le dg s
  have wl : w.length = a := by rw [← hw, List.length_take]; omega
  have hWd : Dg w := by rw [← hw, ← ha]; exact tw_dg s
  have hwne : w ≠ [] := fun z => by rw [z] at wl; simp at wl; omega
  have rn := fun S => lrun_spec (al := dg) hs hi hl S
  rw [ha] at rn
  have sl := fun S => sl_at (o := false) (S := S) (k := a) hs hi hl
  rw [hw] at sl
  have lw := fun S => len_L (l := w) (S := S) (by omega)
  obtain ⟨W, hW⟩ : ∃ W, w.length = W := ⟨_, rfl⟩
  rw [hW] at lw ⊢
  by_cases hn : 9 < W
  · have hd : decide ((9 : Int) < (W : Int)) = true := decide_eq_true (by omega)
    rw [if_pos hn]
    simp only [m__law_number_token, x_bnd, k_ok, k_exc, k_stuck, x_giv, x_fail, selM_t, selM_f, selS_t, selS_f, sK_ok, sK_exc, sK_stuck, x_seq, seq_nx, seq_bk, seq_ct, seq_rt, seq_exc, seq_stuck, x_ret, x_retN, x_exp, x_set, x_nil, x_brk, x_cnt, x_tgt, tK_ok, tK_stuck, x_asgK, x_asg, ifK_t, ifK_f, x_if, x_fgK, fK_bk, fK_rt, fK_exc, for_src, x_fpK, fpK_nx, fpK_ct, srcK_nil, srcK_rng, x_for, x_def, defK_rt, defK_nx, defK_exc, slot_some, x_slot, x_c, x_Nil, x_consK, x_cons, x_F, x_m2K, x_m2, x_m1, x_B, x_T, asB_bl, asT_bl, asT_int, asT_non, asT_tup, asT_rol, asT_frz, x_And, x_Or, andK_t, andK_f, orK_t, orK_f, x_Not, x_AndV, x_OrV, x_andVK, x_orVK, x_NotV, x_IfE, ifEK_t, ifEK_f, x_Tup, x_Lst, x_mkF, x_mkT, x_Call, add_ii, sub_ii, neg_i, cmp_ii, eq_ii, eq_bb, eq_ss, ne_ii, ne_ss, is_n, isnot_n, non_n, non_i, non_b, non_s, non_t, non_r, non_o, ix_t, ix_r, ix_f, lst_s, ix_oo, len_oo, srcL_oo, set_oo, setO_l, opt_s, len_t, len_r, len_f, abs_i, int_i, int_b, max_ii, min_ii, gcd_ii, list_f, list_r, list_t, tuple_r, tuple_t, x_It, x_Nm, x_Tp, x_gN, x_gC, x_iE, x_iF, srcL_f, srcL_r, srcT_t, srcS_s, x_Isi, isi_tt, isi_ti, isi_tn, isi_tb, isi_ts, isi_bt, isi_bi, isi_bn, isi_bb, isi_bs, isi_st, isi_si, isi_sn, isi_sb, isi_ss, isi_it, isi_ii, isi_in, isi_ib, isi_is, at0, at1, at2, at3, ix0, ix1, ix2, ix3, whC_t, whC_f, whK_nx, whK_ct, whK_bk, whK_rt, List.map_cons, List.map_nil, List.length_cons, List.length_nil, List.replicate_succ, List.replicate_zero, List.set_cons_zero, List.set_cons_succ, List.cons_append, List.nil_append, List.append_nil, Nat.reduceAdd, Nat.reduceSub, Nat.sub_zero, Nat.sub_self, Nat.zero_add, List.getElem?_cons_zero, List.getElem?_cons_succ, decide_true, decide_false, Bool.not_true, Bool.not_false, List.isEmpty_cons, List.isEmpty_nil, Nat.reduceLeDiff, Nat.reduceSucc, x_Me, x_meK, x_Me0, ty_ss, ty_lo, ty_ll, ty_dd, ty_lr, ap_o, up_l, pop_o, pop_l, asT_o, tru_l, tru_d, ext_o, lsts_r, lsts_t, x_chain, in_ssF, in_ssT, in_t, in_r, in_o, inK_sF, inK_sT, flat_s, flat_i, List.all_cons, List.all_nil, Bool.and_true, Bool.true_and, rev_t, rev_r, sum_r, maxL_r, minL_r, any_r, all_r, inc_ii, x_aug, x_lc, x_lc2, lcEnd_f, lcEnd_t, x_yes, x_Sl, x_oN, x_oS, asI_i, sl_t, sl_r, cut1, js_nil, js_cons, add_or, x_raise, x_raiseI, rai_2, x_try, try_nx, try_rt, try_e0, try_e2, hot_bl, x_isx, isx_1, x_fld, fld_1, L_app, in_L, x_small, x_need, lit_dg, ↓cd, rn, sl, lw, hd]
  · have hd : decide ((9 : Int) < (W : Int)) = false := decide_eq_false (by omega)
    have ea : w ++ [] = w := List.append_nil w
    obtain ⟨f1, _, _, _, _, f6⟩ := num_facts (ds := []) hWd (fun c h => by simp at h) hwne (by rw [ea]; omega)
    rw [ea] at f1 f6
    have f6' : ∀ S, m__law_fraction [.int (valL w : Nat), .int 1] S = .ok (numV w []) S := f6
    rw [if_neg hn]
    simp only [m__law_number_token, x_bnd, k_ok, k_exc, k_stuck, x_giv, x_fail, selM_t, selM_f, selS_t, selS_f, sK_ok, sK_exc, sK_stuck, x_seq, seq_nx, seq_bk, seq_ct, seq_rt, seq_exc, seq_stuck, x_ret, x_retN, x_exp, x_set, x_nil, x_brk, x_cnt, x_tgt, tK_ok, tK_stuck, x_asgK, x_asg, ifK_t, ifK_f, x_if, x_fgK, fK_bk, fK_rt, fK_exc, for_src, x_fpK, fpK_nx, fpK_ct, srcK_nil, srcK_rng, x_for, x_def, defK_rt, defK_nx, defK_exc, slot_some, x_slot, x_c, x_Nil, x_consK, x_cons, x_F, x_m2K, x_m2, x_m1, x_B, x_T, asB_bl, asT_bl, asT_int, asT_non, asT_tup, asT_rol, asT_frz, x_And, x_Or, andK_t, andK_f, orK_t, orK_f, x_Not, x_AndV, x_OrV, x_andVK, x_orVK, x_NotV, x_IfE, ifEK_t, ifEK_f, x_Tup, x_Lst, x_mkF, x_mkT, x_Call, add_ii, sub_ii, neg_i, cmp_ii, eq_ii, eq_bb, eq_ss, ne_ii, ne_ss, is_n, isnot_n, non_n, non_i, non_b, non_s, non_t, non_r, non_o, ix_t, ix_r, ix_f, lst_s, ix_oo, len_oo, srcL_oo, set_oo, setO_l, opt_s, len_t, len_r, len_f, abs_i, int_i, int_b, max_ii, min_ii, gcd_ii, list_f, list_r, list_t, tuple_r, tuple_t, x_It, x_Nm, x_Tp, x_gN, x_gC, x_iE, x_iF, srcL_f, srcL_r, srcT_t, srcS_s, x_Isi, isi_tt, isi_ti, isi_tn, isi_tb, isi_ts, isi_bt, isi_bi, isi_bn, isi_bb, isi_bs, isi_st, isi_si, isi_sn, isi_sb, isi_ss, isi_it, isi_ii, isi_in, isi_ib, isi_is, at0, at1, at2, at3, ix0, ix1, ix2, ix3, whC_t, whC_f, whK_nx, whK_ct, whK_bk, whK_rt, List.map_cons, List.map_nil, List.length_cons, List.length_nil, List.replicate_succ, List.replicate_zero, List.set_cons_zero, List.set_cons_succ, List.cons_append, List.nil_append, List.append_nil, Nat.reduceAdd, Nat.reduceSub, Nat.sub_zero, Nat.sub_self, Nat.zero_add, List.getElem?_cons_zero, List.getElem?_cons_succ, decide_true, decide_false, Bool.not_true, Bool.not_false, List.isEmpty_cons, List.isEmpty_nil, Nat.reduceLeDiff, Nat.reduceSucc, x_Me, x_meK, x_Me0, ty_ss, ty_lo, ty_ll, ty_dd, ty_lr, ap_o, up_l, pop_o, pop_l, asT_o, tru_l, tru_d, ext_o, lsts_r, lsts_t, x_chain, in_ssF, in_ssT, in_t, in_r, in_o, inK_sF, inK_sT, flat_s, flat_i, List.all_cons, List.all_nil, Bool.and_true, Bool.true_and, rev_t, rev_r, sum_r, maxL_r, minL_r, any_r, all_r, inc_ii, x_aug, x_lc, x_lc2, lcEnd_f, lcEnd_t, x_yes, x_Sl, x_oN, x_oS, asI_i, sl_t, sl_r, cut1, js_nil, js_cons, add_or, x_raise, x_raiseI, rai_2, x_try, try_nx, try_rt, try_e0, try_e2, hot_bl, x_isx, isx_1, x_fld, fld_1, L_app, in_L, x_small, x_need, lit_dg, ↓cd, rn, sl, lw, hd, ↓f1, ↓f6']
/-- decimals -/
theorem lnumA {l s s3 : List Nat} {i a b : Nat} (hs : l.drop i = s) (hi : i ≤ l.length) (hl : l.length ≤ 10000) (ha : tw dg s = a) (h0 : 0 < a) {w ds : List Nat} (hw : s.take a = w)
    (hs3 : l.drop (i + a + 1) = s3) (hi3 : i + a + 1 ≤ l.length) (hb : tw dg s3 = b) (hd : s3.take b = ds)
    (cd : ∀ S, condN [some (.str (L l)), some (.int (i : Int)), some (.str (L dg)), some (.int ((i + a : Nat) : Int)), some (.str (L w)), some (.int 1), none, none] S = .ok true S) :
    ∀ S, m__law_number_token [.str (L l), .int (i : Int)] S = if 9 < (w ++ ds).length then .ok (.str "digits") S else .ok (.tup [.int ((i + (a + (1 + ds.length)) : Nat) : Int), .str "number", numV w ds]) S := by
  intro S
  have n := at_len hs hi
  have n3 := at_len hs3 hi3
  have tl := tw_le dg s
  have tl3 := tw_le dg s3
  have wl : w.length = a := by rw [← hw, List.length_take]; omega
  have dl : ds.length = b := by rw [← hd, List.length_take]; omega
  have hWd : Dg w := by rw [← hw, ← ha]; exact tw_dg s
  have hDd : Dg ds := by rw [← hd, ← hb]; exact tw_dg s3
  have hwne : w ≠ [] := fun z => by rw [z] at wl; simp at wl; omega
  have rn := fun S => lrun_spec (al := dg) hs hi hl S
  rw [ha] at rn
  have rn3 := fun S => lrun_spec (al := dg) hs3 hi3 hl S
  rw [hb] at rn3
  have sl := fun S => sl_at (o := false) (S := S) (k := a) hs hi hl
  rw [hw] at sl
  have sl3 := fun S => sl_at (o := false) (S := S) (k := b) hs3 hi3 hl
  rw [hd] at sl3
  have ad := fun S => add_L (a := w) (b := ds) (o := false) (S := S) (by omega)
  have lw := fun S => len_L (l := w ++ ds) (S := S) (by rw [List.length_append]; omega)
  have wdl : (w ++ ds).length = a + b := by rw [List.length_append]; omega
  rw [wdl] at lw
  have e1 : ((i + a : Nat) : Int) + 1 = ((i + a + 1 : Nat) : Int) := rfl
  have e2 : ((i + a + 1 + b : Nat) : Int) - ((i + a : Nat) : Int) - 1 = (b : Int) := by omega
  have e3 : ((i + a + 1 + b : Nat) : Int) = ((i + (a + (1 + ds.length)) : Nat) : Int) := by omega
  obtain ⟨m, hm, hmb⟩ : ∃ m : Nat, (∀ S, gMin2 [.int (b : Int), .int 9] S = .ok (.int (m : Int)) S) ∧ m ≤ 9 ∧ (b ≤ 9 → m = b) := by
    by_cases h : b ≤ 9
    · refine ⟨b, fun S => ?_, h, fun _ => rfl⟩
      have z : ¬ (9 : Int) < (b : Int) := by omega
      simp only [min_ii]
      first | rw [if_neg z] | rw [if_pos (by omega)]
    · refine ⟨9, fun S => ?_, by omega, fun z => absurd z h⟩
      have z : (9 : Int) < (b : Int) := by omega
      simp only [min_ii]
      first | rw [if_pos z]; rfl | rw [if_neg (by omega)]; rfl
  have rg : ∀ S, rng1 [.int (m : Int)] S = .ok (srcR 0 (m : Int)) S := fun S => rng1_i (by omega)
  obtain ⟨o7, pw⟩ := pow_loop m hmb.1 (some (.str (L l))) (some (.int (i : Int))) (some (.str (L dg))) (some (.int ((i + a + 1 + b : Nat) : Int))) (some (.str (L (w ++ ds)))) (some (.int ((i + a : Nat) : Int))) none S
  by_cases hn : 9 < a + b
  · have hd : decide ((9 : Int) < ((a + b : Nat) : Int)) = true := decide_eq_true (by omega)
    rw [if_pos (by omega)]
    simp only [m__law_number_token, x_bnd, k_ok, k_exc, k_stuck, x_giv, x_fail, selM_t, selM_f, selS_t, selS_f, sK_ok, sK_exc, sK_stuck, x_seq, seq_nx, seq_bk, seq_ct, seq_rt, seq_exc, seq_stuck, x_ret, x_retN, x_exp, x_set, x_nil, x_brk, x_cnt, x_tgt, tK_ok, tK_stuck, x_asgK, x_asg, ifK_t, ifK_f, x_if, x_fgK, fK_bk, fK_rt, fK_exc, for_src, x_fpK, fpK_nx, fpK_ct, srcK_nil, srcK_rng, x_for, x_def, defK_rt, defK_nx, defK_exc, slot_some, x_slot, x_c, x_Nil, x_consK, x_cons, x_F, x_m2K, x_m2, x_m1, x_B, x_T, asB_bl, asT_bl, asT_int, asT_non, asT_tup, asT_rol, asT_frz, x_And, x_Or, andK_t, andK_f, orK_t, orK_f, x_Not, x_AndV, x_OrV, x_andVK, x_orVK, x_NotV, x_IfE, ifEK_t, ifEK_f, x_Tup, x_Lst, x_mkF, x_mkT, x_Call, add_ii, sub_ii, neg_i, cmp_ii, eq_ii, eq_bb, eq_ss, ne_ii, ne_ss, is_n, isnot_n, non_n, non_i, non_b, non_s, non_t, non_r, non_o, ix_t, ix_r, ix_f, lst_s, ix_oo, len_oo, srcL_oo, set_oo, setO_l, opt_s, len_t, len_r, len_f, abs_i, int_i, int_b, max_ii, min_ii, gcd_ii, list_f, list_r, list_t, tuple_r, tuple_t, x_It, x_Nm, x_Tp, x_gN, x_gC, x_iE, x_iF, srcL_f, srcL_r, srcT_t, srcS_s, x_Isi, isi_tt, isi_ti, isi_tn, isi_tb, isi_ts, isi_bt, isi_bi, isi_bn, isi_bb, isi_bs, isi_st, isi_si, isi_sn, isi_sb, isi_ss, isi_it, isi_ii, isi_in, isi_ib, isi_is, at0, at1, at2, at3, ix0, ix1, ix2, ix3, whC_t, whC_f, whK_nx, whK_ct, whK_bk, whK_rt, List.map_cons, List.map_nil, List.length_cons, List.length_nil, List.replicate_succ, List.replicate_zero, List.set_cons_zero, List.set_cons_succ, List.cons_append, List.nil_append, List.append_nil, Nat.reduceAdd, Nat.reduceSub, Nat.sub_zero, Nat.sub_self, Nat.zero_add, List.getElem?_cons_zero, List.getElem?_cons_succ, decide_true, decide_false, Bool.not_true, Bool.not_false, List.isEmpty_cons, List.isEmpty_nil, Nat.reduceLeDiff, Nat.reduceSucc, x_Me, x_meK, x_Me0, ty_ss, ty_lo, ty_ll, ty_dd, ty_lr, ap_o, up_l, pop_o, pop_l, asT_o, tru_l, tru_d, ext_o, lsts_r, lsts_t, x_chain, in_ssF, in_ssT, in_t, in_r, in_o, inK_sF, inK_sT, flat_s, flat_i, List.all_cons, List.all_nil, Bool.and_true, Bool.true_and, rev_t, rev_r, sum_r, maxL_r, minL_r, any_r, all_r, inc_ii, x_aug, x_lc, x_lc2, lcEnd_f, lcEnd_t, x_yes, x_Sl, x_oN, x_oS, asI_i, sl_t, sl_r, cut1, js_nil, js_cons, add_or, x_raise, x_raiseI, rai_2, x_try, try_nx, try_rt, try_e0, try_e2, hot_bl, x_isx, isx_1, x_fld, fld_1, L_app, in_L, x_small, x_need, lit_dg, ↓cd, rn, sl, e1, rn3, sl3, ad, e2, hm, rg, ↓pw, lw, hd]
  · have hd : decide ((9 : Int) < ((a + b : Nat) : Int)) = false := decide_eq_false (by omega)
    have em := hmb.2 (by omega)
    rw [em] at hm pw rg
    obtain ⟨f1, _, _, _, _, f6⟩ := num_facts hWd hDd hwne (by omega)
    rw [dl] at f6
    rw [if_neg (by omega), ← e3]
    simp only [m__law_number_token, x_bnd, k_ok, k_exc, k_stuck, x_giv, x_fail, selM_t, selM_f, selS_t, selS_f, sK_ok, sK_exc, sK_stuck, x_seq, seq_nx, seq_bk, seq_ct, seq_rt, seq_exc, seq_stuck, x_ret, x_retN, x_exp, x_set, x_nil, x_brk, x_cnt, x_tgt, tK_ok, tK_stuck, x_asgK, x_asg, ifK_t, ifK_f, x_if, x_fgK, fK_bk, fK_rt, fK_exc, for_src, x_fpK, fpK_nx, fpK_ct, srcK_nil, srcK_rng, x_for, x_def, defK_rt, defK_nx, defK_exc, slot_some, x_slot, x_c, x_Nil, x_consK, x_cons, x_F, x_m2K, x_m2, x_m1, x_B, x_T, asB_bl, asT_bl, asT_int, asT_non, asT_tup, asT_rol, asT_frz, x_And, x_Or, andK_t, andK_f, orK_t, orK_f, x_Not, x_AndV, x_OrV, x_andVK, x_orVK, x_NotV, x_IfE, ifEK_t, ifEK_f, x_Tup, x_Lst, x_mkF, x_mkT, x_Call, add_ii, sub_ii, neg_i, cmp_ii, eq_ii, eq_bb, eq_ss, ne_ii, ne_ss, is_n, isnot_n, non_n, non_i, non_b, non_s, non_t, non_r, non_o, ix_t, ix_r, ix_f, lst_s, ix_oo, len_oo, srcL_oo, set_oo, setO_l, opt_s, len_t, len_r, len_f, abs_i, int_i, int_b, max_ii, min_ii, gcd_ii, list_f, list_r, list_t, tuple_r, tuple_t, x_It, x_Nm, x_Tp, x_gN, x_gC, x_iE, x_iF, srcL_f, srcL_r, srcT_t, srcS_s, x_Isi, isi_tt, isi_ti, isi_tn, isi_tb, isi_ts, isi_bt, isi_bi, isi_bn, isi_bb, isi_bs, isi_st, isi_si, isi_sn, isi_sb, isi_ss, isi_it, isi_ii, isi_in, isi_ib, isi_is, at0, at1, at2, at3, ix0, ix1, ix2, ix3, whC_t, whC_f, whK_nx, whK_ct, whK_bk, whK_rt, List.map_cons, List.map_nil, List.length_cons, List.length_nil, List.replicate_succ, List.replicate_zero, List.set_cons_zero, List.set_cons_succ, List.cons_append, List.nil_append, List.append_nil, Nat.reduceAdd, Nat.reduceSub, Nat.sub_zero, Nat.sub_self, Nat.zero_add, List.getElem?_cons_zero, List.getElem?_cons_succ, decide_true, decide_false, Bool.not_true, Bool.not_false, List.isEmpty_cons, List.isEmpty_nil, Nat.reduceLeDiff, Nat.reduceSucc, x_Me, x_meK, x_Me0, ty_ss, ty_lo, ty_ll, ty_dd, ty_lr, ap_o, up_l, pop_o, pop_l, asT_o, tru_l, tru_d, ext_o, lsts_r, lsts_t, x_chain, in_ssF, in_ssT, in_t, in_r, in_o, inK_sF, inK_sT, flat_s, flat_i, List.all_cons, List.all_nil, Bool.and_true, Bool.true_and, rev_t, rev_r, sum_r, maxL_r, minL_r, any_r, all_r, inc_ii, x_aug, x_lc, x_lc2, lcEnd_f, lcEnd_t, x_yes, x_Sl, x_oN, x_oS, asI_i, sl_t, sl_r, cut1, js_nil, js_cons, add_or, x_raise, x_raiseI, rai_2, x_try, try_nx, try_rt, try_e0, try_e2, hot_bl, x_isx, isx_1, x_fld, fld_1, L_app, in_L, x_small, x_need, lit_dg, ↓cd, rn, sl, e1, rn3, sl3, ad, e2, hm, rg, ↓pw, lw, hd, ↓f1, ↓f6]
theorem num_agree {l r : List Nat} {i c : Nat} (hs : l.drop i = c :: r) (hc : c ∈ dg) (hl : l.length ≤ 10000) : Agree l i (fun S => m__number_at [.str (L l), .int (i : Int)] S) (fun S => m__law_number_token [.str (L l), .int (i : Int)] S) := by
  have lt := at_lt hs
  have hi : i ≤ l.length := by omega
  have n := at_len hs hi
  obtain ⟨s, hs0⟩ : ∃ s, c :: r = s := ⟨_, rfl⟩
  have tp : 0 < tw dg s := by rw [← hs0, tw_in hc]; omega
  rw [hs0] at hs n
  obtain ⟨a, ha⟩ : ∃ a, tw dg s = a := ⟨_, rfl⟩
  rw [ha] at tp
  have tl := tw_le dg s
  obtain ⟨w, hw⟩ : ∃ w, s.take a = w := ⟨_, rfl⟩
  have wl : w.length = a := by rw [← hw, List.length_take]; omega
  obtain ⟨s2, hs2⟩ : ∃ s2, l.drop (i + a) = s2 := ⟨_, rfl⟩
  have hi2 : i + a ≤ l.length := by omega
  have st := fun S => start_at (S := S) (w := [46]) hs2 hi2
  have s1 := fun S => sl_at (o := false) (S := S) (k := 1) hs2 hi2 hl
  have e1 : ((i + a : Nat) : Int) + 1 = ((i + a + 1 : Nat) : Int) := rfl
  have ln := fun S => len_L (l := l) (S := S) (by omega)
  have fin : ∀ (ds : List Nat), a + ds.length ≤ l.length → i + (a + if ds = [] then 0 else 1 + ds.length) ≤ l.length → (∀ S, m__number_at [.str (L l), .int (i : Int)] S = if 9 < (w ++ ds).length then .exc ⟨"FormulaError", [("reason", .str "digits"), ("place", .int (i : Int))]⟩ S else
      .ok (.tup [.str "number", numV w ds, .int ((i + (a + if ds = [] then 0 else 1 + ds.length) : Nat) : Int)]) S) → (∀ S, m__law_number_token [.str (L l), .int (i : Int)] S = if 9 < (w ++ ds).length then .ok (.str "digits") S else .ok (.tup [.int ((i + (a + if ds = [] then 0 else 1 + ds.length) : Nat) : Int), .str "number", numV w ds]) S) →
      Agree l i (fun S => m__number_at [.str (L l), .int (i : Int)] S) (fun S => m__law_number_token [.str (L l), .int (i : Int)] S) := by
    intro ds _ hle h1 h2
    by_cases h : 9 < (w ++ ds).length
    · exact .inr ⟨"digits", fun S => (h1 S).trans (if_pos h), fun S => (h2 S).trans (if_pos h)⟩
    · exact .inl ⟨"number", numV w ds, _, by omega, hle, plain_mono (plain_pr _), fun S => (h1 S).trans (if_neg h), fun S => (h2 S).trans (if_neg h)⟩
  by_cases hp : s2.take 1 = [46]
  · obtain ⟨s3, rfl⟩ : ∃ s3, s2 = 46 :: s3 := by
      cases s2 with
      | nil => simp at hp
      | cons x s3 => simp at hp; exact ⟨s3, by rw [hp]⟩
    have lt2 := at_lt hs2
    have hs3 := at_next hs2
    have n3 := at_len hs3 (by omega)
    have stt : ∀ S, gStartswith (.str (L l)) [.str (L [46]), .int ((i + a : Nat) : Int)] S = .ok (.bl true) S := fun S => by rw [st]; congr 2
    obtain ⟨b, hb⟩ : ∃ b, tw dg s3 = b := ⟨_, rfl⟩
    obtain ⟨ds, hd⟩ : ∃ ds, s3.take b = ds := ⟨_, rfl⟩
    have tl3 := tw_le dg s3
    have dl : ds.length = b := by rw [← hd, List.length_take]; omega
    have hDd : Dg ds := by rw [← hd, ← hb]; exact tw_dg s3
    have rn3 := fun S => run_spec (al := dg) hs3 (by omega) hl S
    rw [hb] at rn3
    have sl3 := fun S => sl_at (o := false) (S := S) (k := b) hs3 (by omega) hl
    rw [hd] at sl3
    have pn := pnum hs hi hl ha tp hw hDd (by omega) stt (fun z => by cases z) (fun _ => ⟨_, rn3, sl3⟩)
    refine fin ds (by omega) (by split <;> omega) pn ?_
    by_cases hb0 : b = 0
    · have hds : ds = [] := List.length_eq_zero_iff.mp (by omega)
      subst hds
      rw [if_pos rfl]
      rw [List.append_nil]
      refine lnumB hs hi hl ha tp hw fun S => ?_
      have q1 : decide (([46] : List Nat) = [46]) = true := rfl
      cases s3 with
      | nil =>
        have z : decide (((i + a + 1 : Nat) : Int) < ((l.length : Nat) : Int)) = false := decide_eq_false (by simp at n3; omega)
        rw [hp] at s1
        simp only [condN, x_bnd, k_ok, k_exc, k_stuck, x_giv, x_fail, selM_t, selM_f, selS_t, selS_f, sK_ok, sK_exc, sK_stuck, x_seq, seq_nx, seq_bk, seq_ct, seq_rt, seq_exc, seq_stuck, x_ret, x_retN, x_exp, x_set, x_nil, x_brk, x_cnt, x_tgt, tK_ok, tK_stuck, x_asgK, x_asg, ifK_t, ifK_f, x_if, x_fgK, fK_bk, fK_rt, fK_exc, for_src, x_fpK, fpK_nx, fpK_ct, srcK_nil, srcK_rng, x_for, x_def, defK_rt, defK_nx, defK_exc, slot_some, x_slot, x_c, x_Nil, x_consK, x_cons, x_F, x_m2K, x_m2, x_m1, x_B, x_T, asB_bl, asT_bl, asT_int, asT_non, asT_tup, asT_rol, asT_frz, x_And, x_Or, andK_t, andK_f, orK_t, orK_f, x_Not, x_AndV, x_OrV, x_andVK, x_orVK, x_NotV, x_IfE, ifEK_t, ifEK_f, x_Tup, x_Lst, x_mkF, x_mkT, x_Call, add_ii, sub_ii, neg_i, cmp_ii, eq_ii, eq_bb, eq_ss, ne_ii, ne_ss, is_n, isnot_n, non_n, non_i, non_b, non_s, non_t, non_r, non_o, ix_t, ix_r, ix_f, lst_s, ix_oo, len_oo, srcL_oo, set_oo, setO_l, opt_s, len_t, len_r, len_f, abs_i, int_i, int_b, max_ii, min_ii, gcd_ii, list_f, list_r, list_t, tuple_r, tuple_t, x_It, x_Nm, x_Tp, x_gN, x_gC, x_iE, x_iF, srcL_f, srcL_r, srcT_t, srcS_s, x_Isi, isi_tt, isi_ti, isi_tn, isi_tb, isi_ts, isi_bt, isi_bi, isi_bn, isi_bb, isi_bs, isi_st, isi_si, isi_sn, isi_sb, isi_ss, isi_it, isi_ii, isi_in, isi_ib, isi_is, at0, at1, at2, at3, ix0, ix1, ix2, ix3, whC_t, whC_f, whK_nx, whK_ct, whK_bk, whK_rt, List.map_cons, List.map_nil, List.length_cons, List.length_nil, List.replicate_succ, List.replicate_zero, List.set_cons_zero, List.set_cons_succ, List.cons_append, List.nil_append, List.append_nil, Nat.reduceAdd, Nat.reduceSub, Nat.sub_zero, Nat.sub_self, Nat.zero_add, List.getElem?_cons_zero, List.getElem?_cons_succ, decide_true, decide_false, Bool.not_true, Bool.not_false, List.isEmpty_cons, List.isEmpty_nil, Nat.reduceLeDiff, Nat.reduceSucc, x_Me, x_meK, x_Me0, ty_ss, ty_lo, ty_ll, ty_dd, ty_lr, ap_o, up_l, pop_o, pop_l, asT_o, tru_l, tru_d, ext_o, lsts_r, lsts_t, x_chain, in_ssF, in_ssT, in_t, in_r, in_o, inK_sF, inK_sT, flat_s, flat_i, List.all_cons, List.all_nil, Bool.and_true, Bool.true_and, rev_t, rev_r, sum_r, maxL_r, minL_r, any_r, all_r, inc_ii, x_aug, x_lc, x_lc2, lcEnd_f, lcEnd_t, x_yes, x_Sl, x_oN, x_oS, asI_i, sl_t, sl_r, cut1, js_nil, js_cons, add_or, x_raise, x_raiseI, rai_2, x_try, try_nx, try_rt, try_e0, try_e2, hot_bl, x_isx, isx_1, x_fld, fld_1, L_app, in_L, x_small, lit_pt, e1, s1, eq_LL, q1, ln, z]
      | cons d s4 =>
        have z : decide (((i + a + 1 : Nat) : Int) < ((l.length : Nat) : Int)) = true := decide_eq_true (by have := at_lt hs3; omega)
        have ix := fun S => ix_at (S := S) hs3 hl
        have hd : decide (d ∈ dg) = false := decide_eq_false fun z => by rw [tw_in z] at hb; omega
        rw [hp] at s1
        simp only [condN, x_bnd, k_ok, k_exc, k_stuck, x_giv, x_fail, selM_t, selM_f, selS_t, selS_f, sK_ok, sK_exc, sK_stuck, x_seq, seq_nx, seq_bk, seq_ct, seq_rt, seq_exc, seq_stuck, x_ret, x_retN, x_exp, x_set, x_nil, x_brk, x_cnt, x_tgt, tK_ok, tK_stuck, x_asgK, x_asg, ifK_t, ifK_f, x_if, x_fgK, fK_bk, fK_rt, fK_exc, for_src, x_fpK, fpK_nx, fpK_ct, srcK_nil, srcK_rng, x_for, x_def, defK_rt, defK_nx, defK_exc, slot_some, x_slot, x_c, x_Nil, x_consK, x_cons, x_F, x_m2K, x_m2, x_m1, x_B, x_T, asB_bl, asT_bl, asT_int, asT_non, asT_tup, asT_rol, asT_frz, x_And, x_Or, andK_t, andK_f, orK_t, orK_f, x_Not, x_AndV, x_OrV, x_andVK, x_orVK, x_NotV, x_IfE, ifEK_t, ifEK_f, x_Tup, x_Lst, x_mkF, x_mkT, x_Call, add_ii, sub_ii, neg_i, cmp_ii, eq_ii, eq_bb, eq_ss, ne_ii, ne_ss, is_n, isnot_n, non_n, non_i, non_b, non_s, non_t, non_r, non_o, ix_t, ix_r, ix_f, lst_s, ix_oo, len_oo, srcL_oo, set_oo, setO_l, opt_s, len_t, len_r, len_f, abs_i, int_i, int_b, max_ii, min_ii, gcd_ii, list_f, list_r, list_t, tuple_r, tuple_t, x_It, x_Nm, x_Tp, x_gN, x_gC, x_iE, x_iF, srcL_f, srcL_r, srcT_t, srcS_s, x_Isi, isi_tt, isi_ti, isi_tn, isi_tb, isi_ts, isi_bt, isi_bi, isi_bn, isi_bb, isi_bs, isi_st, isi_si, isi_sn, isi_sb, isi_ss, isi_it, isi_ii, isi_in, isi_ib, isi_is, at0, at1, at2, at3, ix0, ix1, ix2, ix3, whC_t, whC_f, whK_nx, whK_ct, whK_bk, whK_rt, List.map_cons, List.map_nil, List.length_cons, List.length_nil, List.replicate_succ, List.replicate_zero, List.set_cons_zero, List.set_cons_succ, List.cons_append, List.nil_append, List.append_nil, Nat.reduceAdd, Nat.reduceSub, Nat.sub_zero, Nat.sub_self, Nat.zero_add, List.getElem?_cons_zero, List.getElem?_cons_succ, decide_true, decide_false, Bool.not_true, Bool.not_false, List.isEmpty_cons, List.isEmpty_nil, Nat.reduceLeDiff, Nat.reduceSucc, x_Me, x_meK, x_Me0, ty_ss, ty_lo, ty_ll, ty_dd, ty_lr, ap_o, up_l, pop_o, pop_l, asT_o, tru_l, tru_d, ext_o, lsts_r, lsts_t, x_chain, in_ssF, in_ssT, in_t, in_r, in_o, inK_sF, inK_sT, flat_s, flat_i, List.all_cons, List.all_nil, Bool.and_true, Bool.true_and, rev_t, rev_r, sum_r, maxL_r, minL_r, any_r, all_r, inc_ii, x_aug, x_lc, x_lc2, lcEnd_f, lcEnd_t, x_yes, x_Sl, x_oN, x_oS, asI_i, sl_t, sl_r, cut1, js_nil, js_cons, add_or, x_raise, x_raiseI, rai_2, x_try, try_nx, try_rt, try_e0, try_e2, hot_bl, x_isx, isx_1, x_fld, fld_1, L_app, in_L, x_small, lit_pt, e1, s1, eq_LL, q1, ln, z, ix, hd]
    · have hds : ds ≠ [] := fun z => by rw [z] at dl; simp at dl; omega
      rw [if_neg hds]
      refine lnumA hs hi hl ha tp hw hs3 (by omega) hb hd fun S => ?_
      have q1 : decide (([46] : List Nat) = [46]) = true := rfl
      cases s3 with
      | nil => rw [tw_nil] at hb; omega
      | cons d s4 =>
        have z : decide (((i + a + 1 : Nat) : Int) < ((l.length : Nat) : Int)) = true := decide_eq_true (by have := at_lt hs3; omega)
        have ix := fun S => ix_at (S := S) hs3 hl
        have hd : decide (d ∈ dg) = true := decide_eq_true (Classical.byContradiction fun z => by rw [tw_out z] at hb; omega)
        rw [hp] at s1
        simp only [condN, x_bnd, k_ok, k_exc, k_stuck, x_giv, x_fail, selM_t, selM_f, selS_t, selS_f, sK_ok, sK_exc, sK_stuck, x_seq, seq_nx, seq_bk, seq_ct, seq_rt, seq_exc, seq_stuck, x_ret, x_retN, x_exp, x_set, x_nil, x_brk, x_cnt, x_tgt, tK_ok, tK_stuck, x_asgK, x_asg, ifK_t, ifK_f, x_if, x_fgK, fK_bk, fK_rt, fK_exc, for_src, x_fpK, fpK_nx, fpK_ct, srcK_nil, srcK_rng, x_for, x_def, defK_rt, defK_nx, defK_exc, slot_some, x_slot, x_c, x_Nil, x_consK, x_cons, x_F, x_m2K, x_m2, x_m1, x_B, x_T, asB_bl, asT_bl, asT_int, asT_non, asT_tup, asT_rol, asT_frz, x_And, x_Or, andK_t, andK_f, orK_t, orK_f, x_Not, x_AndV, x_OrV, x_andVK, x_orVK, x_NotV, x_IfE, ifEK_t, ifEK_f, x_Tup, x_Lst, x_mkF, x_mkT, x_Call, add_ii, sub_ii, neg_i, cmp_ii, eq_ii, eq_bb, eq_ss, ne_ii, ne_ss, is_n, isnot_n, non_n, non_i, non_b, non_s, non_t, non_r, non_o, ix_t, ix_r, ix_f, lst_s, ix_oo, len_oo, srcL_oo, set_oo, setO_l, opt_s, len_t, len_r, len_f, abs_i, int_i, int_b, max_ii, min_ii, gcd_ii, list_f, list_r, list_t, tuple_r, tuple_t, x_It, x_Nm, x_Tp, x_gN, x_gC, x_iE, x_iF, srcL_f, srcL_r, srcT_t, srcS_s, x_Isi, isi_tt, isi_ti, isi_tn, isi_tb, isi_ts, isi_bt, isi_bi, isi_bn, isi_bb, isi_bs, isi_st, isi_si, isi_sn, isi_sb, isi_ss, isi_it, isi_ii, isi_in, isi_ib, isi_is, at0, at1, at2, at3, ix0, ix1, ix2, ix3, whC_t, whC_f, whK_nx, whK_ct, whK_bk, whK_rt, List.map_cons, List.map_nil, List.length_cons, List.length_nil, List.replicate_succ, List.replicate_zero, List.set_cons_zero, List.set_cons_succ, List.cons_append, List.nil_append, List.append_nil, Nat.reduceAdd, Nat.reduceSub, Nat.sub_zero, Nat.sub_self, Nat.zero_add, List.getElem?_cons_zero, List.getElem?_cons_succ, decide_true, decide_false, Bool.not_true, Bool.not_false, List.isEmpty_cons, List.isEmpty_nil, Nat.reduceLeDiff, Nat.reduceSucc, x_Me, x_meK, x_Me0, ty_ss, ty_lo, ty_ll, ty_dd, ty_lr, ap_o, up_l, pop_o, pop_l, asT_o, tru_l, tru_d, ext_o, lsts_r, lsts_t, x_chain, in_ssF, in_ssT, in_t, in_r, in_o, inK_sF, inK_sT, flat_s, flat_i, List.all_cons, List.all_nil, Bool.and_true, Bool.true_and, rev_t, rev_r, sum_r, maxL_r, minL_r, any_r, all_r, inc_ii, x_aug, x_lc, x_lc2, lcEnd_f, lcEnd_t, x_yes, x_Sl, x_oN, x_oS, asI_i, sl_t, sl_r, cut1, js_nil, js_cons, add_or, x_raise, x_raiseI, rai_2, x_try, try_nx, try_rt, try_e0, try_e2, hot_bl, x_isx, isx_1, x_fld, fld_1, L_app, in_L, x_small, lit_pt, e1, s1, eq_LL, q1, ln, z, ix, hd]
  · have stf : ∀ S, gStartswith (.str (L l)) [.str (L [46]), .int ((i + a : Nat) : Int)] S = .ok (.bl false) S := fun S => by
      rw [st]
      have : (s2.take ([46] : List Nat).length == [46]) = false := by simpa using hp
      rw [this]
    have pn := pnum (ds := []) hs hi hl ha tp hw (fun c h => by simp at h) (by simp) stf (fun _ => rfl) (fun z => by cases z)
    refine fin [] (by simp; omega) (by rw [if_pos rfl]; omega) pn ?_
    rw [if_pos rfl, List.append_nil]
    refine lnumB hs hi hl ha tp hw fun S => ?_
    have q1 : decide (L (s2.take 1) = L [46]) = false := decide_eq_false fun z => hp (L_inj z)
    simp only [condN, x_bnd, k_ok, k_exc, k_stuck, x_giv, x_fail, selM_t, selM_f, selS_t, selS_f, sK_ok, sK_exc, sK_stuck, x_seq, seq_nx, seq_bk, seq_ct, seq_rt, seq_exc, seq_stuck, x_ret, x_retN, x_exp, x_set, x_nil, x_brk, x_cnt, x_tgt, tK_ok, tK_stuck, x_asgK, x_asg, ifK_t, ifK_f, x_if, x_fgK, fK_bk, fK_rt, fK_exc, for_src, x_fpK, fpK_nx, fpK_ct, srcK_nil, srcK_rng, x_for, x_def, defK_rt, defK_nx, defK_exc, slot_some, x_slot, x_c, x_Nil, x_consK, x_cons, x_F, x_m2K, x_m2, x_m1, x_B, x_T, asB_bl, asT_bl, asT_int, asT_non, asT_tup, asT_rol, asT_frz, x_And, x_Or, andK_t, andK_f, orK_t, orK_f, x_Not, x_AndV, x_OrV, x_andVK, x_orVK, x_NotV, x_IfE, ifEK_t, ifEK_f, x_Tup, x_Lst, x_mkF, x_mkT, x_Call, add_ii, sub_ii, neg_i, cmp_ii, eq_ii, eq_bb, eq_ss, ne_ii, ne_ss, is_n, isnot_n, non_n, non_i, non_b, non_s, non_t, non_r, non_o, ix_t, ix_r, ix_f, lst_s, ix_oo, len_oo, srcL_oo, set_oo, setO_l, opt_s, len_t, len_r, len_f, abs_i, int_i, int_b, max_ii, min_ii, gcd_ii, list_f, list_r, list_t, tuple_r, tuple_t, x_It, x_Nm, x_Tp, x_gN, x_gC, x_iE, x_iF, srcL_f, srcL_r, srcT_t, srcS_s, x_Isi, isi_tt, isi_ti, isi_tn, isi_tb, isi_ts, isi_bt, isi_bi, isi_bn, isi_bb, isi_bs, isi_st, isi_si, isi_sn, isi_sb, isi_ss, isi_it, isi_ii, isi_in, isi_ib, isi_is, at0, at1, at2, at3, ix0, ix1, ix2, ix3, whC_t, whC_f, whK_nx, whK_ct, whK_bk, whK_rt, List.map_cons, List.map_nil, List.length_cons, List.length_nil, List.replicate_succ, List.replicate_zero, List.set_cons_zero, List.set_cons_succ, List.cons_append, List.nil_append, List.append_nil, Nat.reduceAdd, Nat.reduceSub, Nat.sub_zero, Nat.sub_self, Nat.zero_add, List.getElem?_cons_zero, List.getElem?_cons_succ, decide_true, decide_false, Bool.not_true, Bool.not_false, List.isEmpty_cons, List.isEmpty_nil, Nat.reduceLeDiff, Nat.reduceSucc, x_Me, x_meK, x_Me0, ty_ss, ty_lo, ty_ll, ty_dd, ty_lr, ap_o, up_l, pop_o, pop_l, asT_o, tru_l, tru_d, ext_o, lsts_r, lsts_t, x_chain, in_ssF, in_ssT, in_t, in_r, in_o, inK_sF, inK_sT, flat_s, flat_i, List.all_cons, List.all_nil, Bool.and_true, Bool.true_and, rev_t, rev_r, sum_r, maxL_r, minL_r, any_r, all_r, inc_ii, x_aug, x_lc, x_lc2, lcEnd_f, lcEnd_t, x_yes, x_Sl, x_oN, x_oS, asI_i, sl_t, sl_r, cut1, js_nil, js_cons, add_or, x_raise, x_raiseI, rai_2, x_try, try_nx, try_rt, try_e0, try_e2, hot_bl, x_isx, isx_1, x_fld, fld_1, L_app, in_L, x_small, lit_pt, e1, s1, q1]
/-! symbols -/
def sy : List Nat := [40, 41, 44, 43, 45, 42, 47, 60, 61, 62]
theorem lit_le : PySem.Str.ofString "<=" = L [60, 61] := lit_L _ _ (by decide +kernel)
theorem lit_ne : PySem.Str.ofString "<>" = L [60, 62] := lit_L _ _ (by decide +kernel)
theorem lit_ge : PySem.Str.ofString ">=" = L [62, 61] := lit_L _ _ (by decide +kernel)
theorem lit_40 : PySem.Str.ofString "(" = L [40] := lit_L _ _ (by decide +kernel)
theorem lit_41 : PySem.Str.ofString ")" = L [41] := lit_L _ _ (by decide +kernel)
theorem lit_44 : PySem.Str.ofString "," = L [44] := lit_L _ _ (by decide +kernel)
theorem lit_42 : PySem.Str.ofString "*" = L [42] := lit_L _ _ (by decide +kernel)
theorem lit_60 : PySem.Str.ofString "<" = L [60] := lit_L _ _ (by decide +kernel)
theorem lit_61 : PySem.Str.ofString "=" = L [61] := lit_L _ _ (by decide +kernel)
theorem lit_62 : PySem.Str.ofString ">" = L [62] := lit_L _ _ (by decide +kernel)
theorem lit_sy : PySem.Str.ofString "(),+-*/<=>" = L sy := lit_L _ _ (by decide +kernel)
def symW : List (List Nat) := [[60, 61], [60, 62], [62, 61], [40], [41], [44], [43], [45], [42], [47], [60], [61], [62]]
/-- the loop over the symbols -/
theorem sym_loop {l s : List Nat} {i : Nat} (hs : l.drop i = s) (hi : i ≤ l.length) (hl : l.length ≤ 10000) (S : Store) : ∀ (ws : List (List Nat)), (∀ w ∈ ws, w.length ≤ 2) → ∀ (o : Option D),
    (∃ w ∈ ws, s.take w.length = w ∧ (∀ v ∈ ws.takeWhile (fun v => v != w), s.take v.length ≠ v) ∧ forP (gNm 2) L__symbol_at_1 (ws.map fun w => .str (L w)) [some (.str (L l)), some (.int (i : Int)), o] S = .rt (.tup [.str "symbol", .str (L w), .int ((i + w.length : Nat) : Int)]) S) ∨
    ((∀ w ∈ ws, s.take w.length ≠ w) ∧ ∃ o', forP (gNm 2) L__symbol_at_1 (ws.map fun w => .str (L w)) [some (.str (L l)), some (.int (i : Int)), o] S = .nx [some (.str (L l)), some (.int (i : Int)), o'] S)
  | [], _, o => .inr ⟨fun w h => by simp at h, o, fp_nil⟩
  | w :: ws, hw, o => by
    have st := start_at (S := S) (w := w) hs hi
    rw [List.map_cons, fp_cons, x_Nm, tK_ok, x_fpK]
    by_cases h : s.take w.length = w
    · have hb : (s.take w.length == w) = true := by simpa using h
      have ln := len_L (l := w) (S := S) (by have := hw w (List.mem_cons_self ..); omega)
      have e : (i : Int) + (w.length : Int) = ((i + w.length : Nat) : Int) := rfl
      have e1 : L__symbol_at_1 ([some (.str (L l)), some (.int (i : Int)), o].set 2 (some (.str (L w)))) S = .rt (.tup [.str "symbol", .str (L w), .int ((i + w.length : Nat) : Int)]) S := by
        simp only [L__symbol_at_1, x_bnd, k_ok, k_exc, k_stuck, x_giv, x_fail, selM_t, selM_f, selS_t, selS_f, sK_ok, sK_exc, sK_stuck, x_seq, seq_nx, seq_bk, seq_ct, seq_rt, seq_exc, seq_stuck, x_ret, x_retN, x_exp, x_set, x_nil, x_brk, x_cnt, x_tgt, tK_ok, tK_stuck, x_asgK, x_asg, ifK_t, ifK_f, x_if, x_fgK, fK_bk, fK_rt, fK_exc, for_src, x_fpK, fpK_nx, fpK_ct, srcK_nil, srcK_rng, x_for, x_def, defK_rt, defK_nx, defK_exc, slot_some, x_slot, x_c, x_Nil, x_consK, x_cons, x_F, x_m2K, x_m2, x_m1, x_B, x_T, asB_bl, asT_bl, asT_int, asT_non, asT_tup, asT_rol, asT_frz, x_And, x_Or, andK_t, andK_f, orK_t, orK_f, x_Not, x_AndV, x_OrV, x_andVK, x_orVK, x_NotV, x_IfE, ifEK_t, ifEK_f, x_Tup, x_Lst, x_mkF, x_mkT, x_Call, add_ii, sub_ii, neg_i, cmp_ii, eq_ii, eq_bb, eq_ss, ne_ii, ne_ss, is_n, isnot_n, non_n, non_i, non_b, non_s, non_t, non_r, non_o, ix_t, ix_r, ix_f, lst_s, ix_oo, len_oo, srcL_oo, set_oo, setO_l, opt_s, len_t, len_r, len_f, abs_i, int_i, int_b, max_ii, min_ii, gcd_ii, list_f, list_r, list_t, tuple_r, tuple_t, x_It, x_Nm, x_Tp, x_gN, x_gC, x_iE, x_iF, srcL_f, srcL_r, srcT_t, srcS_s, x_Isi, isi_tt, isi_ti, isi_tn, isi_tb, isi_ts, isi_bt, isi_bi, isi_bn, isi_bb, isi_bs, isi_st, isi_si, isi_sn, isi_sb, isi_ss, isi_it, isi_ii, isi_in, isi_ib, isi_is, at0, at1, at2, at3, ix0, ix1, ix2, ix3, whC_t, whC_f, whK_nx, whK_ct, whK_bk, whK_rt, List.map_cons, List.map_nil, List.length_cons, List.length_nil, List.replicate_succ, List.replicate_zero, List.set_cons_zero, List.set_cons_succ, List.cons_append, List.nil_append, List.append_nil, Nat.reduceAdd, Nat.reduceSub, Nat.sub_zero, Nat.sub_self, Nat.zero_add, List.getElem?_cons_zero, List.getElem?_cons_succ, decide_true, decide_false, Bool.not_true, Bool.not_false, List.isEmpty_cons, List.isEmpty_nil, Nat.reduceLeDiff, Nat.reduceSucc, x_Me, x_meK, x_Me0, ty_ss, ty_lo, ty_ll, ty_dd, ty_lr, ap_o, up_l, pop_o, pop_l, asT_o, tru_l, tru_d, ext_o, lsts_r, lsts_t, x_chain, in_ssF, in_ssT, in_t, in_r, in_o, inK_sF, inK_sT, flat_s, flat_i, List.all_cons, List.all_nil, Bool.and_true, Bool.true_and, rev_t, rev_r, sum_r, maxL_r, minL_r, any_r, all_r, inc_ii, x_aug, x_lc, x_lc2, lcEnd_f, lcEnd_t, x_yes, x_Sl, x_oN, x_oS, asI_i, sl_t, sl_r, cut1, js_nil, js_cons, add_or, x_raise, x_raiseI, rai_2, x_try, try_nx, try_rt, try_e0, try_e2, hot_bl, x_isx, isx_1, x_fld, fld_1, L_app, in_L, x_small, st, hb, ln, e]
      rw [e1]
      refine .inl ⟨w, List.mem_cons_self .., h, fun v hv => ?_, rfl⟩
      simp at hv
    · have hb : (s.take w.length == w) = false := by simpa using h
      have e1 : L__symbol_at_1 ([some (.str (L l)), some (.int (i : Int)), o].set 2 (some (.str (L w)))) S = .nx [some (.str (L l)), some (.int (i : Int)), some (.str (L w))] S := by
        simp only [L__symbol_at_1, x_bnd, k_ok, k_exc, k_stuck, x_giv, x_fail, selM_t, selM_f, selS_t, selS_f, sK_ok, sK_exc, sK_stuck, x_seq, seq_nx, seq_bk, seq_ct, seq_rt, seq_exc, seq_stuck, x_ret, x_retN, x_exp, x_set, x_nil, x_brk, x_cnt, x_tgt, tK_ok, tK_stuck, x_asgK, x_asg, ifK_t, ifK_f, x_if, x_fgK, fK_bk, fK_rt, fK_exc, for_src, x_fpK, fpK_nx, fpK_ct, srcK_nil, srcK_rng, x_for, x_def, defK_rt, defK_nx, defK_exc, slot_some, x_slot, x_c, x_Nil, x_consK, x_cons, x_F, x_m2K, x_m2, x_m1, x_B, x_T, asB_bl, asT_bl, asT_int, asT_non, asT_tup, asT_rol, asT_frz, x_And, x_Or, andK_t, andK_f, orK_t, orK_f, x_Not, x_AndV, x_OrV, x_andVK, x_orVK, x_NotV, x_IfE, ifEK_t, ifEK_f, x_Tup, x_Lst, x_mkF, x_mkT, x_Call, add_ii, sub_ii, neg_i, cmp_ii, eq_ii, eq_bb, eq_ss, ne_ii, ne_ss, is_n, isnot_n, non_n, non_i, non_b, non_s, non_t, non_r, non_o, ix_t, ix_r, ix_f, lst_s, ix_oo, len_oo, srcL_oo, set_oo, setO_l, opt_s, len_t, len_r, len_f, abs_i, int_i, int_b, max_ii, min_ii, gcd_ii, list_f, list_r, list_t, tuple_r, tuple_t, x_It, x_Nm, x_Tp, x_gN, x_gC, x_iE, x_iF, srcL_f, srcL_r, srcT_t, srcS_s, x_Isi, isi_tt, isi_ti, isi_tn, isi_tb, isi_ts, isi_bt, isi_bi, isi_bn, isi_bb, isi_bs, isi_st, isi_si, isi_sn, isi_sb, isi_ss, isi_it, isi_ii, isi_in, isi_ib, isi_is, at0, at1, at2, at3, ix0, ix1, ix2, ix3, whC_t, whC_f, whK_nx, whK_ct, whK_bk, whK_rt, List.map_cons, List.map_nil, List.length_cons, List.length_nil, List.replicate_succ, List.replicate_zero, List.set_cons_zero, List.set_cons_succ, List.cons_append, List.nil_append, List.append_nil, Nat.reduceAdd, Nat.reduceSub, Nat.sub_zero, Nat.sub_self, Nat.zero_add, List.getElem?_cons_zero, List.getElem?_cons_succ, decide_true, decide_false, Bool.not_true, Bool.not_false, List.isEmpty_cons, List.isEmpty_nil, Nat.reduceLeDiff, Nat.reduceSucc, x_Me, x_meK, x_Me0, ty_ss, ty_lo, ty_ll, ty_dd, ty_lr, ap_o, up_l, pop_o, pop_l, asT_o, tru_l, tru_d, ext_o, lsts_r, lsts_t, x_chain, in_ssF, in_ssT, in_t, in_r, in_o, inK_sF, inK_sT, flat_s, flat_i, List.all_cons, List.all_nil, Bool.and_true, Bool.true_and, rev_t, rev_r, sum_r, maxL_r, minL_r, any_r, all_r, inc_ii, x_aug, x_lc, x_lc2, lcEnd_f, lcEnd_t, x_yes, x_Sl, x_oN, x_oS, asI_i, sl_t, sl_r, cut1, js_nil, js_cons, add_or, x_raise, x_raiseI, rai_2, x_try, try_nx, try_rt, try_e0, try_e2, hot_bl, x_isx, isx_1, x_fld, fld_1, L_app, in_L, x_small, st, hb]
      rw [e1, fpK_nx]
      rcases sym_loop hs hi hl S ws (fun v hv => hw v (List.mem_cons_of_mem _ hv)) (some (.str (L w))) with ⟨v, hv, h1, h2, h3⟩ | ⟨h1, h2⟩
      · refine .inl ⟨v, List.mem_cons_of_mem _ hv, h1, fun x hx => ?_, h3⟩
        by_cases hwv : w = v
        · subst hwv
          exact absurd h1 h
        · rw [List.takeWhile_cons_of_pos (by simpa using hwv), List.mem_cons] at hx
          rcases hx with rfl | hx
          · exact h
          · exact h2 x hx
      · exact .inr ⟨fun v hv => by
          rcases List.mem_cons.mp hv with rfl | hv
          · exact h
          · exact h1 v hv, h2⟩
theorem sym_prog {l s : List Nat} {i : Nat} (hs : l.drop i = s) (hi : i ≤ l.length) (hl : l.length ≤ 10000) (S : Store) :
    (∃ w ∈ symW, s.take w.length = w ∧ (∀ v ∈ symW.takeWhile (fun v => v != w), s.take v.length ≠ v) ∧ m__symbol_at [.str (L l), .int (i : Int)] S = .ok (.tup [.str "symbol", .str (L w), .int ((i + w.length : Nat) : Int)]) S) ∨
    ((∀ w ∈ symW, s.take w.length ≠ w) ∧ m__symbol_at [.str (L l), .int (i : Int)] S = .exc ⟨"FormulaError", [("reason", .str "character"), ("place", .int (i : Int))]⟩ S) := by
  have add : ∀ S, dAdd false (D.tup [.str (L [60, 61]), .str (L [60, 62]), .str (L [62, 61])]) (D.tup [.str (L [40]), .str (L [41]), .str (L [44]), .str (L [43]), .str (L [45]), .str (L [42]), .str (L [47]), .str (L [60]), .str (L [61]), .str (L [62])]) S = .ok (.tup (symW.map fun w => D.str (L w))) S := fun S => by
    show small 13 (giv (D.tup (symW.map fun w => D.str (L w)))) S = _
    exact x_small (n := 13) (m := giv (D.tup (symW.map fun w => D.str (L w)))) (by decide)
  rcases sym_loop hs hi hl S symW (by decide) none with ⟨w, hw, h1, h2, h3⟩ | ⟨h1, o', h2⟩
  · refine .inl ⟨w, hw, h1, h2, ?_⟩
    simp only [m__symbol_at, x_bnd, k_ok, k_exc, k_stuck, x_giv, x_fail, selM_t, selM_f, selS_t, selS_f, sK_ok, sK_exc, sK_stuck, x_seq, seq_nx, seq_bk, seq_ct, seq_rt, seq_exc, seq_stuck, x_ret, x_retN, x_exp, x_set, x_nil, x_brk, x_cnt, x_tgt, tK_ok, tK_stuck, x_asgK, x_asg, ifK_t, ifK_f, x_if, x_fgK, fK_bk, fK_rt, fK_exc, for_src, x_fpK, fpK_nx, fpK_ct, srcK_nil, srcK_rng, x_for, x_def, defK_rt, defK_nx, defK_exc, slot_some, x_slot, x_c, x_Nil, x_consK, x_cons, x_F, x_m2K, x_m2, x_m1, x_B, x_T, asB_bl, asT_bl, asT_int, asT_non, asT_tup, asT_rol, asT_frz, x_And, x_Or, andK_t, andK_f, orK_t, orK_f, x_Not, x_AndV, x_OrV, x_andVK, x_orVK, x_NotV, x_IfE, ifEK_t, ifEK_f, x_Tup, x_Lst, x_mkF, x_mkT, x_Call, add_ii, sub_ii, neg_i, cmp_ii, eq_ii, eq_bb, eq_ss, ne_ii, ne_ss, is_n, isnot_n, non_n, non_i, non_b, non_s, non_t, non_r, non_o, ix_t, ix_r, ix_f, lst_s, ix_oo, len_oo, srcL_oo, set_oo, setO_l, opt_s, len_t, len_r, len_f, abs_i, int_i, int_b, max_ii, min_ii, gcd_ii, list_f, list_r, list_t, tuple_r, tuple_t, x_It, x_Nm, x_Tp, x_gN, x_gC, x_iE, x_iF, srcL_f, srcL_r, srcT_t, srcS_s, x_Isi, isi_tt, isi_ti, isi_tn, isi_tb, isi_ts, isi_bt, isi_bi, isi_bn, isi_bb, isi_bs, isi_st, isi_si, isi_sn, isi_sb, isi_ss, isi_it, isi_ii, isi_in, isi_ib, isi_is, at0, at1, at2, at3, ix0, ix1, ix2, ix3, whC_t, whC_f, whK_nx, whK_ct, whK_bk, whK_rt, List.map_cons, List.map_nil, List.length_cons, List.length_nil, List.replicate_succ, List.replicate_zero, List.set_cons_zero, List.set_cons_succ, List.cons_append, List.nil_append, List.append_nil, Nat.reduceAdd, Nat.reduceSub, Nat.sub_zero, Nat.sub_self, Nat.zero_add, List.getElem?_cons_zero, List.getElem?_cons_succ, decide_true, decide_false, Bool.not_true, Bool.not_false, List.isEmpty_cons, List.isEmpty_nil, Nat.reduceLeDiff, Nat.reduceSucc, x_Me, x_meK, x_Me0, ty_ss, ty_lo, ty_ll, ty_dd, ty_lr, ap_o, up_l, pop_o, pop_l, asT_o, tru_l, tru_d, ext_o, lsts_r, lsts_t, x_chain, in_ssF, in_ssT, in_t, in_r, in_o, inK_sF, inK_sT, flat_s, flat_i, List.all_cons, List.all_nil, Bool.and_true, Bool.true_and, rev_t, rev_r, sum_r, maxL_r, minL_r, any_r, all_r, inc_ii, x_aug, x_lc, x_lc2, lcEnd_f, lcEnd_t, x_yes, x_Sl, x_oN, x_oS, asI_i, sl_t, sl_r, cut1, js_nil, js_cons, add_or, x_raise, x_raiseI, rai_2, x_try, try_nx, try_rt, try_e0, try_e2, hot_bl, x_isx, isx_1, x_fld, fld_1, L_app, in_L, x_small, lit_le, lit_ne, lit_ge, lit_40, lit_41, lit_44, lit_p, lit_m, lit_42, lit_s, lit_60, lit_61, lit_62, ↓add, ↓h3]
  · refine .inr ⟨h1, ?_⟩
    simp only [m__symbol_at, x_bnd, k_ok, k_exc, k_stuck, x_giv, x_fail, selM_t, selM_f, selS_t, selS_f, sK_ok, sK_exc, sK_stuck, x_seq, seq_nx, seq_bk, seq_ct, seq_rt, seq_exc, seq_stuck, x_ret, x_retN, x_exp, x_set, x_nil, x_brk, x_cnt, x_tgt, tK_ok, tK_stuck, x_asgK, x_asg, ifK_t, ifK_f, x_if, x_fgK, fK_bk, fK_rt, fK_exc, for_src, x_fpK, fpK_nx, fpK_ct, srcK_nil, srcK_rng, x_for, x_def, defK_rt, defK_nx, defK_exc, slot_some, x_slot, x_c, x_Nil, x_consK, x_cons, x_F, x_m2K, x_m2, x_m1, x_B, x_T, asB_bl, asT_bl, asT_int, asT_non, asT_tup, asT_rol, asT_frz, x_And, x_Or, andK_t, andK_f, orK_t, orK_f, x_Not, x_AndV, x_OrV, x_andVK, x_orVK, x_NotV, x_IfE, ifEK_t, ifEK_f, x_Tup, x_Lst, x_mkF, x_mkT, x_Call, add_ii, sub_ii, neg_i, cmp_ii, eq_ii, eq_bb, eq_ss, ne_ii, ne_ss, is_n, isnot_n, non_n, non_i, non_b, non_s, non_t, non_r, non_o, ix_t, ix_r, ix_f, lst_s, ix_oo, len_oo, srcL_oo, set_oo, setO_l, opt_s, len_t, len_r, len_f, abs_i, int_i, int_b, max_ii, min_ii, gcd_ii, list_f, list_r, list_t, tuple_r, tuple_t, x_It, x_Nm, x_Tp, x_gN, x_gC, x_iE, x_iF, srcL_f, srcL_r, srcT_t, srcS_s, x_Isi, isi_tt, isi_ti, isi_tn, isi_tb, isi_ts, isi_bt, isi_bi, isi_bn, isi_bb, isi_bs, isi_st, isi_si, isi_sn, isi_sb, isi_ss, isi_it, isi_ii, isi_in, isi_ib, isi_is, at0, at1, at2, at3, ix0, ix1, ix2, ix3, whC_t, whC_f, whK_nx, whK_ct, whK_bk, whK_rt, List.map_cons, List.map_nil, List.length_cons, List.length_nil, List.replicate_succ, List.replicate_zero, List.set_cons_zero, List.set_cons_succ, List.cons_append, List.nil_append, List.append_nil, Nat.reduceAdd, Nat.reduceSub, Nat.sub_zero, Nat.sub_self, Nat.zero_add, List.getElem?_cons_zero, List.getElem?_cons_succ, decide_true, decide_false, Bool.not_true, Bool.not_false, List.isEmpty_cons, List.isEmpty_nil, Nat.reduceLeDiff, Nat.reduceSucc, x_Me, x_meK, x_Me0, ty_ss, ty_lo, ty_ll, ty_dd, ty_lr, ap_o, up_l, pop_o, pop_l, asT_o, tru_l, tru_d, ext_o, lsts_r, lsts_t, x_chain, in_ssF, in_ssT, in_t, in_r, in_o, inK_sF, inK_sT, flat_s, flat_i, List.all_cons, List.all_nil, Bool.and_true, Bool.true_and, rev_t, rev_r, sum_r, maxL_r, minL_r, any_r, all_r, inc_ii, x_aug, x_lc, x_lc2, lcEnd_f, lcEnd_t, x_yes, x_Sl, x_oN, x_oS, asI_i, sl_t, sl_r, cut1, js_nil, js_cons, add_or, x_raise, x_raiseI, rai_2, x_try, try_nx, try_rt, try_e0, try_e2, hot_bl, x_isx, isx_1, x_fld, fld_1, L_app, in_L, x_small, lit_le, lit_ne, lit_ge, lit_40, lit_41, lit_44, lit_p, lit_m, lit_42, lit_s, lit_60, lit_61, lit_62, ↓add, ↓h2]
end K09

set_option Elab.async false
set_option linter.all false
set_option maxHeartbeats 4000000
set_option maxRecDepth 100000
set_option exponentiation.threshold 10000
namespace K09
open PySem PySem.Spec PyProof.Rows L2 Py
theorem beq_LL {a b : List Nat} : (L a == L b) = decide (a = b) := by
  rw [Bool.eq_iff_iff, beq_iff_eq, decide_eq_true_eq]
  exact ⟨L_inj, fun e => by rw [e]⟩
theorem one_eq {c x : Nat} : decide (L [c] = L [x]) = decide (c = x) := decide_eq_decide.mpr ⟨fun e => by have := L_inj e; simpa using this, fun e => by rw [e]⟩
theorem long_in {t : List Nat} {b : Bool} (h : b = decide (t = [60, 61] ∨ t = [60, 62] ∨ t = [62, 61])) : inD (.str (L t)) [.str (L [60, 61]), .str (L [60, 62]), .str (L [62, 61])] = b := by
  rw [h]
  simp only [inD_cons, inD_nil, eqD_ss, beq_LL, Bool.or_false]
  rw [Bool.eq_iff_iff]
  simp only [Bool.or_eq_true, decide_eq_true_eq]
  constructor
  · rintro (h | h | h)
    · exact .inl h.symm
    · exact .inr (.inl h.symm)
    · exact .inr (.inr h.symm)
  · rintro (h | h | h)
    · exact .inl h.symm
    · exact .inr (.inl h.symm)
    · exact .inr (.inr h.symm)
theorem token_agree {l r : List Nat} {i c : Nat} (hs : l.drop i = c :: r) (hl : l.length ≤ 10000) : Agree l i (fun S => m__token_at [.str (L l), .int (i : Int)] S) (fun S => m__law_token [.str (L l), .int (i : Int)] S) := by
  have lt := at_lt hs
  have hi : i ≤ l.length := by omega
  have n := at_len hs hi
  have ix := fun S => ix_at (S := S) hs hl
  by_cases hdg : c ∈ dg
  · have d1 : decide (c ∈ dg) = true := decide_eq_true hdg
    rcases num_agree hs hdg hl with ⟨k, v, m, m0, m1, pv, h1, h2⟩ | ⟨e, h1, h2⟩
    · refine .inl ⟨k, v, m, m0, m1, pv, fun S => ?_, fun S => ?_⟩
      · simp only [m__token_at, x_bnd, k_ok, k_exc, k_stuck, x_giv, x_fail, selM_t, selM_f, selS_t, selS_f, sK_ok, sK_exc, sK_stuck, x_seq, seq_nx, seq_bk, seq_ct, seq_rt, seq_exc, seq_stuck, x_ret, x_retN, x_exp, x_set, x_nil, x_brk, x_cnt, x_tgt, tK_ok, tK_stuck, x_asgK, x_asg, ifK_t, ifK_f, x_if, x_fgK, fK_bk, fK_rt, fK_exc, for_src, x_fpK, fpK_nx, fpK_ct, srcK_nil, srcK_rng, x_for, x_def, defK_rt, defK_nx, defK_exc, slot_some, x_slot, x_c, x_Nil, x_consK, x_cons, x_F, x_m2K, x_m2, x_m1, x_B, x_T, asB_bl, asT_bl, asT_int, asT_non, asT_tup, asT_rol, asT_frz, x_And, x_Or, andK_t, andK_f, orK_t, orK_f, x_Not, x_AndV, x_OrV, x_andVK, x_orVK, x_NotV, x_IfE, ifEK_t, ifEK_f, x_Tup, x_Lst, x_mkF, x_mkT, x_Call, add_ii, sub_ii, neg_i, cmp_ii, eq_ii, eq_bb, eq_ss, ne_ii, ne_ss, is_n, isnot_n, non_n, non_i, non_b, non_s, non_t, non_r, non_o, ix_t, ix_r, ix_f, lst_s, ix_oo, len_oo, srcL_oo, set_oo, setO_l, opt_s, len_t, len_r, len_f, abs_i, int_i, int_b, max_ii, min_ii, gcd_ii, list_f, list_r, list_t, tuple_r, tuple_t, x_It, x_Nm, x_Tp, x_gN, x_gC, x_iE, x_iF, srcL_f, srcL_r, srcT_t, srcS_s, x_Isi, isi_tt, isi_ti, isi_tn, isi_tb, isi_ts, isi_bt, isi_bi, isi_bn, isi_bb, isi_bs, isi_st, isi_si, isi_sn, isi_sb, isi_ss, isi_it, isi_ii, isi_in, isi_ib, isi_is, at0, at1, at2, at3, ix0, ix1, ix2, ix3, whC_t, whC_f, whK_nx, whK_ct, whK_bk, whK_rt, List.map_cons, List.map_nil, List.length_cons, List.length_nil, List.replicate_succ, List.replicate_zero, List.set_cons_zero, List.set_cons_succ, List.cons_append, List.nil_append, List.append_nil, Nat.reduceAdd, Nat.reduceSub, Nat.sub_zero, Nat.sub_self, Nat.zero_add, List.getElem?_cons_zero, List.getElem?_cons_succ, decide_true, decide_false, Bool.not_true, Bool.not_false, List.isEmpty_cons, List.isEmpty_nil, Nat.reduceLeDiff, Nat.reduceSucc, x_Me, x_meK, x_Me0, ty_ss, ty_lo, ty_ll, ty_dd, ty_lr, ap_o, up_l, pop_o, pop_l, asT_o, tru_l, tru_d, ext_o, lsts_r, lsts_t, x_chain, in_ssF, in_ssT, in_t, in_r, in_o, inK_sF, inK_sT, flat_s, flat_i, List.all_cons, List.all_nil, Bool.and_true, Bool.true_and, rev_t, rev_r, sum_r, maxL_r, minL_r, any_r, all_r, inc_ii, x_aug, x_lc, x_lc2, lcEnd_f, lcEnd_t, x_yes, x_Sl, x_oN, x_oS, asI_i, sl_t, sl_r, cut1, js_nil, js_cons, add_or, x_raise, x_raiseI, rai_2, x_try, try_nx, try_rt, try_e0, try_e2, hot_bl, x_isx, isx_1, x_fld, fld_1, L_app, in_L, x_small, x_need, lit_dg, ix, d1, ↓h1]
      · simp only [m__law_token, x_bnd, k_ok, k_exc, k_stuck, x_giv, x_fail, selM_t, selM_f, selS_t, selS_f, sK_ok, sK_exc, sK_stuck, x_seq, seq_nx, seq_bk, seq_ct, seq_rt, seq_exc, seq_stuck, x_ret, x_retN, x_exp, x_set, x_nil, x_brk, x_cnt, x_tgt, tK_ok, tK_stuck, x_asgK, x_asg, ifK_t, ifK_f, x_if, x_fgK, fK_bk, fK_rt, fK_exc, for_src, x_fpK, fpK_nx, fpK_ct, srcK_nil, srcK_rng, x_for, x_def, defK_rt, defK_nx, defK_exc, slot_some, x_slot, x_c, x_Nil, x_consK, x_cons, x_F, x_m2K, x_m2, x_m1, x_B, x_T, asB_bl, asT_bl, asT_int, asT_non, asT_tup, asT_rol, asT_frz, x_And, x_Or, andK_t, andK_f, orK_t, orK_f, x_Not, x_AndV, x_OrV, x_andVK, x_orVK, x_NotV, x_IfE, ifEK_t, ifEK_f, x_Tup, x_Lst, x_mkF, x_mkT, x_Call, add_ii, sub_ii, neg_i, cmp_ii, eq_ii, eq_bb, eq_ss, ne_ii, ne_ss, is_n, isnot_n, non_n, non_i, non_b, non_s, non_t, non_r, non_o, ix_t, ix_r, ix_f, lst_s, ix_oo, len_oo, srcL_oo, set_oo, setO_l, opt_s, len_t, len_r, len_f, abs_i, int_i, int_b, max_ii, min_ii, gcd_ii, list_f, list_r, list_t, tuple_r, tuple_t, x_It, x_Nm, x_Tp, x_gN, x_gC, x_iE, x_iF, srcL_f, srcL_r, srcT_t, srcS_s, x_Isi, isi_tt, isi_ti, isi_tn, isi_tb, isi_ts, isi_bt, isi_bi, isi_bn, isi_bb, isi_bs, isi_st, isi_si, isi_sn, isi_sb, isi_ss, isi_it, isi_ii, isi_in, isi_ib, isi_is, at0, at1, at2, at3, ix0, ix1, ix2, ix3, whC_t, whC_f, whK_nx, whK_ct, whK_bk, whK_rt, List.map_cons, List.map_nil, List.length_cons, List.length_nil, List.replicate_succ, List.replicate_zero, List.set_cons_zero, List.set_cons_succ, List.cons_append, List.nil_append, List.append_nil, Nat.reduceAdd, Nat.reduceSub, Nat.sub_zero, Nat.sub_self, Nat.zero_add, List.getElem?_cons_zero, List.getElem?_cons_succ, decide_true, decide_false, Bool.not_true, Bool.not_false, List.isEmpty_cons, List.isEmpty_nil, Nat.reduceLeDiff, Nat.reduceSucc, x_Me, x_meK, x_Me0, ty_ss, ty_lo, ty_ll, ty_dd, ty_lr, ap_o, up_l, pop_o, pop_l, asT_o, tru_l, tru_d, ext_o, lsts_r, lsts_t, x_chain, in_ssF, in_ssT, in_t, in_r, in_o, inK_sF, inK_sT, flat_s, flat_i, List.all_cons, List.all_nil, Bool.and_true, Bool.true_and, rev_t, rev_r, sum_r, maxL_r, minL_r, any_r, all_r, inc_ii, x_aug, x_lc, x_lc2, lcEnd_f, lcEnd_t, x_yes, x_Sl, x_oN, x_oS, asI_i, sl_t, sl_r, cut1, js_nil, js_cons, add_or, x_raise, x_raiseI, rai_2, x_try, try_nx, try_rt, try_e0, try_e2, hot_bl, x_isx, isx_1, x_fld, fld_1, L_app, in_L, x_small, x_need, lit_dg, ix, d1, ↓h2]
    · refine .inr ⟨e, fun S => ?_, fun S => ?_⟩
      · simp only [m__token_at, x_bnd, k_ok, k_exc, k_stuck, x_giv, x_fail, selM_t, selM_f, selS_t, selS_f, sK_ok, sK_exc, sK_stuck, x_seq, seq_nx, seq_bk, seq_ct, seq_rt, seq_exc, seq_stuck, x_ret, x_retN, x_exp, x_set, x_nil, x_brk, x_cnt, x_tgt, tK_ok, tK_stuck, x_asgK, x_asg, ifK_t, ifK_f, x_if, x_fgK, fK_bk, fK_rt, fK_exc, for_src, x_fpK, fpK_nx, fpK_ct, srcK_nil, srcK_rng, x_for, x_def, defK_rt, defK_nx, defK_exc, slot_some, x_slot, x_c, x_Nil, x_consK, x_cons, x_F, x_m2K, x_m2, x_m1, x_B, x_T, asB_bl, asT_bl, asT_int, asT_non, asT_tup, asT_rol, asT_frz, x_And, x_Or, andK_t, andK_f, orK_t, orK_f, x_Not, x_AndV, x_OrV, x_andVK, x_orVK, x_NotV, x_IfE, ifEK_t, ifEK_f, x_Tup, x_Lst, x_mkF, x_mkT, x_Call, add_ii, sub_ii, neg_i, cmp_ii, eq_ii, eq_bb, eq_ss, ne_ii, ne_ss, is_n, isnot_n, non_n, non_i, non_b, non_s, non_t, non_r, non_o, ix_t, ix_r, ix_f, lst_s, ix_oo, len_oo, srcL_oo, set_oo, setO_l, opt_s, len_t, len_r, len_f, abs_i, int_i, int_b, max_ii, min_ii, gcd_ii, list_f, list_r, list_t, tuple_r, tuple_t, x_It, x_Nm, x_Tp, x_gN, x_gC, x_iE, x_iF, srcL_f, srcL_r, srcT_t, srcS_s, x_Isi, isi_tt, isi_ti, isi_tn, isi_tb, isi_ts, isi_bt, isi_bi, isi_bn, isi_bb, isi_bs, isi_st, isi_si, isi_sn, isi_sb, isi_ss, isi_it, isi_ii, isi_in, isi_ib, isi_is, at0, at1, at2, at3, ix0, ix1, ix2, ix3, whC_t, whC_f, whK_nx, whK_ct, whK_bk, whK_rt, List.map_cons, List.map_nil, List.length_cons, List.length_nil, List.replicate_succ, List.replicate_zero, List.set_cons_zero, List.set_cons_succ, List.cons_append, List.nil_append, List.append_nil, Nat.reduceAdd, Nat.reduceSub, Nat.sub_zero, Nat.sub_self, Nat.zero_add, List.getElem?_cons_zero, List.getElem?_cons_succ, decide_true, decide_false, Bool.not_true, Bool.not_false, List.isEmpty_cons, List.isEmpty_nil, Nat.reduceLeDiff, Nat.reduceSucc, x_Me, x_meK, x_Me0, ty_ss, ty_lo, ty_ll, ty_dd, ty_lr, ap_o, up_l, pop_o, pop_l, asT_o, tru_l, tru_d, ext_o, lsts_r, lsts_t, x_chain, in_ssF, in_ssT, in_t, in_r, in_o, inK_sF, inK_sT, flat_s, flat_i, List.all_cons, List.all_nil, Bool.and_true, Bool.true_and, rev_t, rev_r, sum_r, maxL_r, minL_r, any_r, all_r, inc_ii, x_aug, x_lc, x_lc2, lcEnd_f, lcEnd_t, x_yes, x_Sl, x_oN, x_oS, asI_i, sl_t, sl_r, cut1, js_nil, js_cons, add_or, x_raise, x_raiseI, rai_2, x_try, try_nx, try_rt, try_e0, try_e2, hot_bl, x_isx, isx_1, x_fld, fld_1, L_app, in_L, x_small, x_need, lit_dg, ix, d1, ↓h1]
      · simp only [m__law_token, x_bnd, k_ok, k_exc, k_stuck, x_giv, x_fail, selM_t, selM_f, selS_t, selS_f, sK_ok, sK_exc, sK_stuck, x_seq, seq_nx, seq_bk, seq_ct, seq_rt, seq_exc, seq_stuck, x_ret, x_retN, x_exp, x_set, x_nil, x_brk, x_cnt, x_tgt, tK_ok, tK_stuck, x_asgK, x_asg, ifK_t, ifK_f, x_if, x_fgK, fK_bk, fK_rt, fK_exc, for_src, x_fpK, fpK_nx, fpK_ct, srcK_nil, srcK_rng, x_for, x_def, defK_rt, defK_nx, defK_exc, slot_some, x_slot, x_c, x_Nil, x_consK, x_cons, x_F, x_m2K, x_m2, x_m1, x_B, x_T, asB_bl, asT_bl, asT_int, asT_non, asT_tup, asT_rol, asT_frz, x_And, x_Or, andK_t, andK_f, orK_t, orK_f, x_Not, x_AndV, x_OrV, x_andVK, x_orVK, x_NotV, x_IfE, ifEK_t, ifEK_f, x_Tup, x_Lst, x_mkF, x_mkT, x_Call, add_ii, sub_ii, neg_i, cmp_ii, eq_ii, eq_bb, eq_ss, ne_ii, ne_ss, is_n, isnot_n, non_n, non_i, non_b, non_s, non_t, non_r, non_o, ix_t, ix_r, ix_f, lst_s, ix_oo, len_oo, srcL_oo, set_oo, setO_l, opt_s, len_t, len_r, len_f, abs_i, int_i, int_b, max_ii, min_ii, gcd_ii, list_f, list_r, list_t, tuple_r, tuple_t, x_It, x_Nm, x_Tp, x_gN, x_gC, x_iE, x_iF, srcL_f, srcL_r, srcT_t, srcS_s, x_Isi, isi_tt, isi_ti, isi_tn, isi_tb, isi_ts, isi_bt, isi_bi, isi_bn, isi_bb, isi_bs, isi_st, isi_si, isi_sn, isi_sb, isi_ss, isi_it, isi_ii, isi_in, isi_ib, isi_is, at0, at1, at2, at3, ix0, ix1, ix2, ix3, whC_t, whC_f, whK_nx, whK_ct, whK_bk, whK_rt, List.map_cons, List.map_nil, List.length_cons, List.length_nil, List.replicate_succ, List.replicate_zero, List.set_cons_zero, List.set_cons_succ, List.cons_append, List.nil_append, List.append_nil, Nat.reduceAdd, Nat.reduceSub, Nat.sub_zero, Nat.sub_self, Nat.zero_add, List.getElem?_cons_zero, List.getElem?_cons_succ, decide_true, decide_false, Bool.not_true, Bool.not_false, List.isEmpty_cons, List.isEmpty_nil, Nat.reduceLeDiff, Nat.reduceSucc, x_Me, x_meK, x_Me0, ty_ss, ty_lo, ty_ll, ty_dd, ty_lr, ap_o, up_l, pop_o, pop_l, asT_o, tru_l, tru_d, ext_o, lsts_r, lsts_t, x_chain, in_ssF, in_ssT, in_t, in_r, in_o, inK_sF, inK_sT, flat_s, flat_i, List.all_cons, List.all_nil, Bool.and_true, Bool.true_and, rev_t, rev_r, sum_r, maxL_r, minL_r, any_r, all_r, inc_ii, x_aug, x_lc, x_lc2, lcEnd_f, lcEnd_t, x_yes, x_Sl, x_oN, x_oS, asI_i, sl_t, sl_r, cut1, js_nil, js_cons, add_or, x_raise, x_raiseI, rai_2, x_try, try_nx, try_rt, try_e0, try_e2, hot_bl, x_isx, isx_1, x_fld, fld_1, L_app, in_L, x_small, x_need, lit_dg, ix, d1, ↓h2]
  have d1 : decide (c ∈ dg) = false := decide_eq_false hdg
  by_cases hA : c ∈ pA
  · have d2 : decide (c ∈ pA) = true := decide_eq_true hA
    have d3 : decide (c ∈ lA) = true := decide_eq_true ((mem_A c).mp hA)
    have nm := name_agree hs hi hl
    have tl := tw_le (pA ++ dg) (c :: r)
    have t0 : 0 < tw (pA ++ dg) (c :: r) := by rw [tw_in (List.mem_append_left _ hA)]; omega
    have rn := fun S => lrun_spec (al := lA ++ dg) hs hi hl S
    rw [tw_congr (a := lA ++ dg) (b := pA ++ dg) (fun c => by simp only [List.mem_append, mem_A c])] at rn
    have ad := fun S => add_L (a := lA) (b := dg) (o := false) (S := S) (by decide)
    have sl := fun S => sl_at (o := false) (S := S) (k := tw (pA ++ dg) (c :: r)) hs hi hl
    obtain ⟨s, hs0⟩ : ∃ s, c :: r = s := ⟨_, rfl⟩
    rw [hs0] at nm tl t0 rn sl n
    obtain ⟨a, ha⟩ : ∃ a, tw (pA ++ dg) s = a := ⟨_, rfl⟩
    rw [ha] at nm tl t0 rn sl
    obtain ⟨w, hw⟩ : ∃ w, s.take a = w := ⟨_, rfl⟩
    rw [hw] at nm sl
    have wl : w.length = a := by rw [← hw, List.length_take]; omega
    have ln := fun S => len_L (l := w) (S := S) (by omega)
    rw [wl] at ln
    by_cases h : 20 < a
    · have hd : decide ((20 : Int) < (a : Int)) = true := decide_eq_true (by omega)
      have h1 : ∀ S, m__name_at [.str (L l), .int (i : Int)] S = .exc ⟨"FormulaError", [("reason", .str "name"), ("place", .int (i : Int))]⟩ S := fun S => (nm S).trans (if_pos h)
      refine .inr ⟨"name", fun S => ?_, fun S => ?_⟩
      · simp only [m__token_at, x_bnd, k_ok, k_exc, k_stuck, x_giv, x_fail, selM_t, selM_f, selS_t, selS_f, sK_ok, sK_exc, sK_stuck, x_seq, seq_nx, seq_bk, seq_ct, seq_rt, seq_exc, seq_stuck, x_ret, x_retN, x_exp, x_set, x_nil, x_brk, x_cnt, x_tgt, tK_ok, tK_stuck, x_asgK, x_asg, ifK_t, ifK_f, x_if, x_fgK, fK_bk, fK_rt, fK_exc, for_src, x_fpK, fpK_nx, fpK_ct, srcK_nil, srcK_rng, x_for, x_def, defK_rt, defK_nx, defK_exc, slot_some, x_slot, x_c, x_Nil, x_consK, x_cons, x_F, x_m2K, x_m2, x_m1, x_B, x_T, asB_bl, asT_bl, asT_int, asT_non, asT_tup, asT_rol, asT_frz, x_And, x_Or, andK_t, andK_f, orK_t, orK_f, x_Not, x_AndV, x_OrV, x_andVK, x_orVK, x_NotV, x_IfE, ifEK_t, ifEK_f, x_Tup, x_Lst, x_mkF, x_mkT, x_Call, add_ii, sub_ii, neg_i, cmp_ii, eq_ii, eq_bb, eq_ss, ne_ii, ne_ss, is_n, isnot_n, non_n, non_i, non_b, non_s, non_t, non_r, non_o, ix_t, ix_r, ix_f, lst_s, ix_oo, len_oo, srcL_oo, set_oo, setO_l, opt_s, len_t, len_r, len_f, abs_i, int_i, int_b, max_ii, min_ii, gcd_ii, list_f, list_r, list_t, tuple_r, tuple_t, x_It, x_Nm, x_Tp, x_gN, x_gC, x_iE, x_iF, srcL_f, srcL_r, srcT_t, srcS_s, x_Isi, isi_tt, isi_ti, isi_tn, isi_tb, isi_ts, isi_bt, isi_bi, isi_bn, isi_bb, isi_bs, isi_st, isi_si, isi_sn, isi_sb, isi_ss, isi_it, isi_ii, isi_in, isi_ib, isi_is, at0, at1, at2, at3, ix0, ix1, ix2, ix3, whC_t, whC_f, whK_nx, whK_ct, whK_bk, whK_rt, List.map_cons, List.map_nil, List.length_cons, List.length_nil, List.replicate_succ, List.replicate_zero, List.set_cons_zero, List.set_cons_succ, List.cons_append, List.nil_append, List.append_nil, Nat.reduceAdd, Nat.reduceSub, Nat.sub_zero, Nat.sub_self, Nat.zero_add, List.getElem?_cons_zero, List.getElem?_cons_succ, decide_true, decide_false, Bool.not_true, Bool.not_false, List.isEmpty_cons, List.isEmpty_nil, Nat.reduceLeDiff, Nat.reduceSucc, x_Me, x_meK, x_Me0, ty_ss, ty_lo, ty_ll, ty_dd, ty_lr, ap_o, up_l, pop_o, pop_l, asT_o, tru_l, tru_d, ext_o, lsts_r, lsts_t, x_chain, in_ssF, in_ssT, in_t, in_r, in_o, inK_sF, inK_sT, flat_s, flat_i, List.all_cons, List.all_nil, Bool.and_true, Bool.true_and, rev_t, rev_r, sum_r, maxL_r, minL_r, any_r, all_r, inc_ii, x_aug, x_lc, x_lc2, lcEnd_f, lcEnd_t, x_yes, x_Sl, x_oN, x_oS, asI_i, sl_t, sl_r, cut1, js_nil, js_cons, add_or, x_raise, x_raiseI, rai_2, x_try, try_nx, try_rt, try_e0, try_e2, hot_bl, x_isx, isx_1, x_fld, fld_1, L_app, in_L, x_small, x_need, lit_dg, lit_pA, ix, d1, d2, ↓h1]
      · simp only [m__law_token, x_bnd, k_ok, k_exc, k_stuck, x_giv, x_fail, selM_t, selM_f, selS_t, selS_f, sK_ok, sK_exc, sK_stuck, x_seq, seq_nx, seq_bk, seq_ct, seq_rt, seq_exc, seq_stuck, x_ret, x_retN, x_exp, x_set, x_nil, x_brk, x_cnt, x_tgt, tK_ok, tK_stuck, x_asgK, x_asg, ifK_t, ifK_f, x_if, x_fgK, fK_bk, fK_rt, fK_exc, for_src, x_fpK, fpK_nx, fpK_ct, srcK_nil, srcK_rng, x_for, x_def, defK_rt, defK_nx, defK_exc, slot_some, x_slot, x_c, x_Nil, x_consK, x_cons, x_F, x_m2K, x_m2, x_m1, x_B, x_T, asB_bl, asT_bl, asT_int, asT_non, asT_tup, asT_rol, asT_frz, x_And, x_Or, andK_t, andK_f, orK_t, orK_f, x_Not, x_AndV, x_OrV, x_andVK, x_orVK, x_NotV, x_IfE, ifEK_t, ifEK_f, x_Tup, x_Lst, x_mkF, x_mkT, x_Call, add_ii, sub_ii, neg_i, cmp_ii, eq_ii, eq_bb, eq_ss, ne_ii, ne_ss, is_n, isnot_n, non_n, non_i, non_b, non_s, non_t, non_r, non_o, ix_t, ix_r, ix_f, lst_s, ix_oo, len_oo, srcL_oo, set_oo, setO_l, opt_s, len_t, len_r, len_f, abs_i, int_i, int_b, max_ii, min_ii, gcd_ii, list_f, list_r, list_t, tuple_r, tuple_t, x_It, x_Nm, x_Tp, x_gN, x_gC, x_iE, x_iF, srcL_f, srcL_r, srcT_t, srcS_s, x_Isi, isi_tt, isi_ti, isi_tn, isi_tb, isi_ts, isi_bt, isi_bi, isi_bn, isi_bb, isi_bs, isi_st, isi_si, isi_sn, isi_sb, isi_ss, isi_it, isi_ii, isi_in, isi_ib, isi_is, at0, at1, at2, at3, ix0, ix1, ix2, ix3, whC_t, whC_f, whK_nx, whK_ct, whK_bk, whK_rt, List.map_cons, List.map_nil, List.length_cons, List.length_nil, List.replicate_succ, List.replicate_zero, List.set_cons_zero, List.set_cons_succ, List.cons_append, List.nil_append, List.append_nil, Nat.reduceAdd, Nat.reduceSub, Nat.sub_zero, Nat.sub_self, Nat.zero_add, List.getElem?_cons_zero, List.getElem?_cons_succ, decide_true, decide_false, Bool.not_true, Bool.not_false, List.isEmpty_cons, List.isEmpty_nil, Nat.reduceLeDiff, Nat.reduceSucc, x_Me, x_meK, x_Me0, ty_ss, ty_lo, ty_ll, ty_dd, ty_lr, ap_o, up_l, pop_o, pop_l, asT_o, tru_l, tru_d, ext_o, lsts_r, lsts_t, x_chain, in_ssF, in_ssT, in_t, in_r, in_o, inK_sF, inK_sT, flat_s, flat_i, List.all_cons, List.all_nil, Bool.and_true, Bool.true_and, rev_t, rev_r, sum_r, maxL_r, minL_r, any_r, all_r, inc_ii, x_aug, x_lc, x_lc2, lcEnd_f, lcEnd_t, x_yes, x_Sl, x_oN, x_oS, asI_i, sl_t, sl_r, cut1, js_nil, js_cons, add_or, x_raise, x_raiseI, rai_2, x_try, try_nx, try_rt, try_e0, try_e2, hot_bl, x_isx, isx_1, x_fld, fld_1, L_app, in_L, x_small, x_need, lit_dg, lit_lA, ix, d1, d3, ad, rn, sl, ln, hd]
    · have hd : decide ((20 : Int) < (a : Int)) = false := decide_eq_false (by omega)
      cases hq : inD (.str (L w)) [.str "if", .str "and", .str "or", .str "not", .str "sum", .str "last", .str "floor"] with
      | true =>
        have h1 : ∀ S, m__name_at [.str (L l), .int (i : Int)] S = .ok (.tup [.str "word", .str (L w), .int ((i + a : Nat) : Int)]) S := fun S => (nm S).trans ((if_neg h).trans (by rw [hq]; rfl))
        refine .inl ⟨"word", .str (L w), a, t0, by omega, trivial, fun S => ?_, fun S => ?_⟩
        · simp only [m__token_at, x_bnd, k_ok, k_exc, k_stuck, x_giv, x_fail, selM_t, selM_f, selS_t, selS_f, sK_ok, sK_exc, sK_stuck, x_seq, seq_nx, seq_bk, seq_ct, seq_rt, seq_exc, seq_stuck, x_ret, x_retN, x_exp, x_set, x_nil, x_brk, x_cnt, x_tgt, tK_ok, tK_stuck, x_asgK, x_asg, ifK_t, ifK_f, x_if, x_fgK, fK_bk, fK_rt, fK_exc, for_src, x_fpK, fpK_nx, fpK_ct, srcK_nil, srcK_rng, x_for, x_def, defK_rt, defK_nx, defK_exc, slot_some, x_slot, x_c, x_Nil, x_consK, x_cons, x_F, x_m2K, x_m2, x_m1, x_B, x_T, asB_bl, asT_bl, asT_int, asT_non, asT_tup, asT_rol, asT_frz, x_And, x_Or, andK_t, andK_f, orK_t, orK_f, x_Not, x_AndV, x_OrV, x_andVK, x_orVK, x_NotV, x_IfE, ifEK_t, ifEK_f, x_Tup, x_Lst, x_mkF, x_mkT, x_Call, add_ii, sub_ii, neg_i, cmp_ii, eq_ii, eq_bb, eq_ss, ne_ii, ne_ss, is_n, isnot_n, non_n, non_i, non_b, non_s, non_t, non_r, non_o, ix_t, ix_r, ix_f, lst_s, ix_oo, len_oo, srcL_oo, set_oo, setO_l, opt_s, len_t, len_r, len_f, abs_i, int_i, int_b, max_ii, min_ii, gcd_ii, list_f, list_r, list_t, tuple_r, tuple_t, x_It, x_Nm, x_Tp, x_gN, x_gC, x_iE, x_iF, srcL_f, srcL_r, srcT_t, srcS_s, x_Isi, isi_tt, isi_ti, isi_tn, isi_tb, isi_ts, isi_bt, isi_bi, isi_bn, isi_bb, isi_bs, isi_st, isi_si, isi_sn, isi_sb, isi_ss, isi_it, isi_ii, isi_in, isi_ib, isi_is, at0, at1, at2, at3, ix0, ix1, ix2, ix3, whC_t, whC_f, whK_nx, whK_ct, whK_bk, whK_rt, List.map_cons, List.map_nil, List.length_cons, List.length_nil, List.replicate_succ, List.replicate_zero, List.set_cons_zero, List.set_cons_succ, List.cons_append, List.nil_append, List.append_nil, Nat.reduceAdd, Nat.reduceSub, Nat.sub_zero, Nat.sub_self, Nat.zero_add, List.getElem?_cons_zero, List.getElem?_cons_succ, decide_true, decide_false, Bool.not_true, Bool.not_false, List.isEmpty_cons, List.isEmpty_nil, Nat.reduceLeDiff, Nat.reduceSucc, x_Me, x_meK, x_Me0, ty_ss, ty_lo, ty_ll, ty_dd, ty_lr, ap_o, up_l, pop_o, pop_l, asT_o, tru_l, tru_d, ext_o, lsts_r, lsts_t, x_chain, in_ssF, in_ssT, in_t, in_r, in_o, inK_sF, inK_sT, flat_s, flat_i, List.all_cons, List.all_nil, Bool.and_true, Bool.true_and, rev_t, rev_r, sum_r, maxL_r, minL_r, any_r, all_r, inc_ii, x_aug, x_lc, x_lc2, lcEnd_f, lcEnd_t, x_yes, x_Sl, x_oN, x_oS, asI_i, sl_t, sl_r, cut1, js_nil, js_cons, add_or, x_raise, x_raiseI, rai_2, x_try, try_nx, try_rt, try_e0, try_e2, hot_bl, x_isx, isx_1, x_fld, fld_1, L_app, in_L, x_small, x_need, lit_dg, lit_pA, ix, d1, d2, ↓h1]
        · simp only [m__law_token, x_bnd, k_ok, k_exc, k_stuck, x_giv, x_fail, selM_t, selM_f, selS_t, selS_f, sK_ok, sK_exc, sK_stuck, x_seq, seq_nx, seq_bk, seq_ct, seq_rt, seq_exc, seq_stuck, x_ret, x_retN, x_exp, x_set, x_nil, x_brk, x_cnt, x_tgt, tK_ok, tK_stuck, x_asgK, x_asg, ifK_t, ifK_f, x_if, x_fgK, fK_bk, fK_rt, fK_exc, for_src, x_fpK, fpK_nx, fpK_ct, srcK_nil, srcK_rng, x_for, x_def, defK_rt, defK_nx, defK_exc, slot_some, x_slot, x_c, x_Nil, x_consK, x_cons, x_F, x_m2K, x_m2, x_m1, x_B, x_T, asB_bl, asT_bl, asT_int, asT_non, asT_tup, asT_rol, asT_frz, x_And, x_Or, andK_t, andK_f, orK_t, orK_f, x_Not, x_AndV, x_OrV, x_andVK, x_orVK, x_NotV, x_IfE, ifEK_t, ifEK_f, x_Tup, x_Lst, x_mkF, x_mkT, x_Call, add_ii, sub_ii, neg_i, cmp_ii, eq_ii, eq_bb, eq_ss, ne_ii, ne_ss, is_n, isnot_n, non_n, non_i, non_b, non_s, non_t, non_r, non_o, ix_t, ix_r, ix_f, lst_s, ix_oo, len_oo, srcL_oo, set_oo, setO_l, opt_s, len_t, len_r, len_f, abs_i, int_i, int_b, max_ii, min_ii, gcd_ii, list_f, list_r, list_t, tuple_r, tuple_t, x_It, x_Nm, x_Tp, x_gN, x_gC, x_iE, x_iF, srcL_f, srcL_r, srcT_t, srcS_s, x_Isi, isi_tt, isi_ti, isi_tn, isi_tb, isi_ts, isi_bt, isi_bi, isi_bn, isi_bb, isi_bs, isi_st, isi_si, isi_sn, isi_sb, isi_ss, isi_it, isi_ii, isi_in, isi_ib, isi_is, at0, at1, at2, at3, ix0, ix1, ix2, ix3, whC_t, whC_f, whK_nx, whK_ct, whK_bk, whK_rt, List.map_cons, List.map_nil, List.length_cons, List.length_nil, List.replicate_succ, List.replicate_zero, List.set_cons_zero, List.set_cons_succ, List.cons_append, List.nil_append, List.append_nil, Nat.reduceAdd, Nat.reduceSub, Nat.sub_zero, Nat.sub_self, Nat.zero_add, List.getElem?_cons_zero, List.getElem?_cons_succ, decide_true, decide_false, Bool.not_true, Bool.not_false, List.isEmpty_cons, List.isEmpty_nil, Nat.reduceLeDiff, Nat.reduceSucc, x_Me, x_meK, x_Me0, ty_ss, ty_lo, ty_ll, ty_dd, ty_lr, ap_o, up_l, pop_o, pop_l, asT_o, tru_l, tru_d, ext_o, lsts_r, lsts_t, x_chain, in_ssF, in_ssT, in_t, in_r, in_o, inK_sF, inK_sT, flat_s, flat_i, List.all_cons, List.all_nil, Bool.and_true, Bool.true_and, rev_t, rev_r, sum_r, maxL_r, minL_r, any_r, all_r, inc_ii, x_aug, x_lc, x_lc2, lcEnd_f, lcEnd_t, x_yes, x_Sl, x_oN, x_oS, asI_i, sl_t, sl_r, cut1, js_nil, js_cons, add_or, x_raise, x_raiseI, rai_2, x_try, try_nx, try_rt, try_e0, try_e2, hot_bl, x_isx, isx_1, x_fld, fld_1, L_app, in_L, x_small, x_need, lit_dg, lit_lA, ix, d1, d3, ad, rn, sl, ln, hd, hq]
          rfl
      | false =>
        have h1 : ∀ S, m__name_at [.str (L l), .int (i : Int)] S = .ok (.tup [.str "name", .str (L w), .int ((i + a : Nat) : Int)]) S := fun S => (nm S).trans ((if_neg h).trans (by rw [hq]; rfl))
        refine .inl ⟨"name", .str (L w), a, t0, by omega, trivial, fun S => ?_, fun S => ?_⟩
        · simp only [m__token_at, x_bnd, k_ok, k_exc, k_stuck, x_giv, x_fail, selM_t, selM_f, selS_t, selS_f, sK_ok, sK_exc, sK_stuck, x_seq, seq_nx, seq_bk, seq_ct, seq_rt, seq_exc, seq_stuck, x_ret, x_retN, x_exp, x_set, x_nil, x_brk, x_cnt, x_tgt, tK_ok, tK_stuck, x_asgK, x_asg, ifK_t, ifK_f, x_if, x_fgK, fK_bk, fK_rt, fK_exc, for_src, x_fpK, fpK_nx, fpK_ct, srcK_nil, srcK_rng, x_for, x_def, defK_rt, defK_nx, defK_exc, slot_some, x_slot, x_c, x_Nil, x_consK, x_cons, x_F, x_m2K, x_m2, x_m1, x_B, x_T, asB_bl, asT_bl, asT_int, asT_non, asT_tup, asT_rol, asT_frz, x_And, x_Or, andK_t, andK_f, orK_t, orK_f, x_Not, x_AndV, x_OrV, x_andVK, x_orVK, x_NotV, x_IfE, ifEK_t, ifEK_f, x_Tup, x_Lst, x_mkF, x_mkT, x_Call, add_ii, sub_ii, neg_i, cmp_ii, eq_ii, eq_bb, eq_ss, ne_ii, ne_ss, is_n, isnot_n, non_n, non_i, non_b, non_s, non_t, non_r, non_o, ix_t, ix_r, ix_f, lst_s, ix_oo, len_oo, srcL_oo, set_oo, setO_l, opt_s, len_t, len_r, len_f, abs_i, int_i, int_b, max_ii, min_ii, gcd_ii, list_f, list_r, list_t, tuple_r, tuple_t, x_It, x_Nm, x_Tp, x_gN, x_gC, x_iE, x_iF, srcL_f, srcL_r, srcT_t, srcS_s, x_Isi, isi_tt, isi_ti, isi_tn, isi_tb, isi_ts, isi_bt, isi_bi, isi_bn, isi_bb, isi_bs, isi_st, isi_si, isi_sn, isi_sb, isi_ss, isi_it, isi_ii, isi_in, isi_ib, isi_is, at0, at1, at2, at3, ix0, ix1, ix2, ix3, whC_t, whC_f, whK_nx, whK_ct, whK_bk, whK_rt, List.map_cons, List.map_nil, List.length_cons, List.length_nil, List.replicate_succ, List.replicate_zero, List.set_cons_zero, List.set_cons_succ, List.cons_append, List.nil_append, List.append_nil, Nat.reduceAdd, Nat.reduceSub, Nat.sub_zero, Nat.sub_self, Nat.zero_add, List.getElem?_cons_zero, List.getElem?_cons_succ, decide_true, decide_false, Bool.not_true, Bool.not_false, List.isEmpty_cons, List.isEmpty_nil, Nat.reduceLeDiff, Nat.reduceSucc, x_Me, x_meK, x_Me0, ty_ss, ty_lo, ty_ll, ty_dd, ty_lr, ap_o, up_l, pop_o, pop_l, asT_o, tru_l, tru_d, ext_o, lsts_r, lsts_t, x_chain, in_ssF, in_ssT, in_t, in_r, in_o, inK_sF, inK_sT, flat_s, flat_i, List.all_cons, List.all_nil, Bool.and_true, Bool.true_and, rev_t, rev_r, sum_r, maxL_r, minL_r, any_r, all_r, inc_ii, x_aug, x_lc, x_lc2, lcEnd_f, lcEnd_t, x_yes, x_Sl, x_oN, x_oS, asI_i, sl_t, sl_r, cut1, js_nil, js_cons, add_or, x_raise, x_raiseI, rai_2, x_try, try_nx, try_rt, try_e0, try_e2, hot_bl, x_isx, isx_1, x_fld, fld_1, L_app, in_L, x_small, x_need, lit_dg, lit_pA, ix, d1, d2, ↓h1]
        · simp only [m__law_token, x_bnd, k_ok, k_exc, k_stuck, x_giv, x_fail, selM_t, selM_f, selS_t, selS_f, sK_ok, sK_exc, sK_stuck, x_seq, seq_nx, seq_bk, seq_ct, seq_rt, seq_exc, seq_stuck, x_ret, x_retN, x_exp, x_set, x_nil, x_brk, x_cnt, x_tgt, tK_ok, tK_stuck, x_asgK, x_asg, ifK_t, ifK_f, x_if, x_fgK, fK_bk, fK_rt, fK_exc, for_src, x_fpK, fpK_nx, fpK_ct, srcK_nil, srcK_rng, x_for, x_def, defK_rt, defK_nx, defK_exc, slot_some, x_slot, x_c, x_Nil, x_consK, x_cons, x_F, x_m2K, x_m2, x_m1, x_B, x_T, asB_bl, asT_bl, asT_int, asT_non, asT_tup, asT_rol, asT_frz, x_And, x_Or, andK_t, andK_f, orK_t, orK_f, x_Not, x_AndV, x_OrV, x_andVK, x_orVK, x_NotV, x_IfE, ifEK_t, ifEK_f, x_Tup, x_Lst, x_mkF, x_mkT, x_Call, add_ii, sub_ii, neg_i, cmp_ii, eq_ii, eq_bb, eq_ss, ne_ii, ne_ss, is_n, isnot_n, non_n, non_i, non_b, non_s, non_t, non_r, non_o, ix_t, ix_r, ix_f, lst_s, ix_oo, len_oo, srcL_oo, set_oo, setO_l, opt_s, len_t, len_r, len_f, abs_i, int_i, int_b, max_ii, min_ii, gcd_ii, list_f, list_r, list_t, tuple_r, tuple_t, x_It, x_Nm, x_Tp, x_gN, x_gC, x_iE, x_iF, srcL_f, srcL_r, srcT_t, srcS_s, x_Isi, isi_tt, isi_ti, isi_tn, isi_tb, isi_ts, isi_bt, isi_bi, isi_bn, isi_bb, isi_bs, isi_st, isi_si, isi_sn, isi_sb, isi_ss, isi_it, isi_ii, isi_in, isi_ib, isi_is, at0, at1, at2, at3, ix0, ix1, ix2, ix3, whC_t, whC_f, whK_nx, whK_ct, whK_bk, whK_rt, List.map_cons, List.map_nil, List.length_cons, List.length_nil, List.replicate_succ, List.replicate_zero, List.set_cons_zero, List.set_cons_succ, List.cons_append, List.nil_append, List.append_nil, Nat.reduceAdd, Nat.reduceSub, Nat.sub_zero, Nat.sub_self, Nat.zero_add, List.getElem?_cons_zero, List.getElem?_cons_succ, decide_true, decide_false, Bool.not_true, Bool.not_false, List.isEmpty_cons, List.isEmpty_nil, Nat.reduceLeDiff, Nat.reduceSucc, x_Me, x_meK, x_Me0, ty_ss, ty_lo, ty_ll, ty_dd, ty_lr, ap_o, up_l, pop_o, pop_l, asT_o, tru_l, tru_d, ext_o, lsts_r, lsts_t, x_chain, in_ssF, in_ssT, in_t, in_r, in_o, inK_sF, inK_sT, flat_s, flat_i, List.all_cons, List.all_nil, Bool.and_true, Bool.true_and, rev_t, rev_r, sum_r, maxL_r, minL_r, any_r, all_r, inc_ii, x_aug, x_lc, x_lc2, lcEnd_f, lcEnd_t, x_yes, x_Sl, x_oN, x_oS, asI_i, sl_t, sl_r, cut1, js_nil, js_cons, add_or, x_raise, x_raiseI, rai_2, x_try, try_nx, try_rt, try_e0, try_e2, hot_bl, x_isx, isx_1, x_fld, fld_1, L_app, in_L, x_small, x_need, lit_dg, lit_lA, ix, d1, d3, ad, rn, sl, ln, hd, hq]
          rfl
  have d2 : decide (c ∈ pA) = false := decide_eq_false hA
  have d3 : decide (c ∈ lA) = false := decide_eq_false fun z => hA ((mem_A c).mpr z)
  by_cases h34 : c = 34
  · subst h34
    have q1 : decide (L [34] = L [34]) = true := decide_eq_true rfl
    have ch := choice_agree hs hl
    have hs1 := at_next hs
    have n1 := at_len hs1 (by omega)
    have e1 : (i : Int) + 1 = ((i + 1 : Nat) : Int) := rfl
    have fd := fun S => find_at (S := S) (c := 34) hs1 (by omega)
    rcases fnd_spec 34 r with ⟨e, h⟩ | ⟨k, e, hk, g, a⟩
    · rw [e] at fd ch
      simp only at fd ch
      have z : decide ((-1 : Int) < (i : Int) + 2) = true := decide_eq_true (by omega)
      refine .inr ⟨"choice", fun S => ?_, fun S => ?_⟩
      · simp only [m__token_at, x_bnd, k_ok, k_exc, k_stuck, x_giv, x_fail, selM_t, selM_f, selS_t, selS_f, sK_ok, sK_exc, sK_stuck, x_seq, seq_nx, seq_bk, seq_ct, seq_rt, seq_exc, seq_stuck, x_ret, x_retN, x_exp, x_set, x_nil, x_brk, x_cnt, x_tgt, tK_ok, tK_stuck, x_asgK, x_asg, ifK_t, ifK_f, x_if, x_fgK, fK_bk, fK_rt, fK_exc, for_src, x_fpK, fpK_nx, fpK_ct, srcK_nil, srcK_rng, x_for, x_def, defK_rt, defK_nx, defK_exc, slot_some, x_slot, x_c, x_Nil, x_consK, x_cons, x_F, x_m2K, x_m2, x_m1, x_B, x_T, asB_bl, asT_bl, asT_int, asT_non, asT_tup, asT_rol, asT_frz, x_And, x_Or, andK_t, andK_f, orK_t, orK_f, x_Not, x_AndV, x_OrV, x_andVK, x_orVK, x_NotV, x_IfE, ifEK_t, ifEK_f, x_Tup, x_Lst, x_mkF, x_mkT, x_Call, add_ii, sub_ii, neg_i, cmp_ii, eq_ii, eq_bb, eq_ss, ne_ii, ne_ss, is_n, isnot_n, non_n, non_i, non_b, non_s, non_t, non_r, non_o, ix_t, ix_r, ix_f, lst_s, ix_oo, len_oo, srcL_oo, set_oo, setO_l, opt_s, len_t, len_r, len_f, abs_i, int_i, int_b, max_ii, min_ii, gcd_ii, list_f, list_r, list_t, tuple_r, tuple_t, x_It, x_Nm, x_Tp, x_gN, x_gC, x_iE, x_iF, srcL_f, srcL_r, srcT_t, srcS_s, x_Isi, isi_tt, isi_ti, isi_tn, isi_tb, isi_ts, isi_bt, isi_bi, isi_bn, isi_bb, isi_bs, isi_st, isi_si, isi_sn, isi_sb, isi_ss, isi_it, isi_ii, isi_in, isi_ib, isi_is, at0, at1, at2, at3, ix0, ix1, ix2, ix3, whC_t, whC_f, whK_nx, whK_ct, whK_bk, whK_rt, List.map_cons, List.map_nil, List.length_cons, List.length_nil, List.replicate_succ, List.replicate_zero, List.set_cons_zero, List.set_cons_succ, List.cons_append, List.nil_append, List.append_nil, Nat.reduceAdd, Nat.reduceSub, Nat.sub_zero, Nat.sub_self, Nat.zero_add, List.getElem?_cons_zero, List.getElem?_cons_succ, decide_true, decide_false, Bool.not_true, Bool.not_false, List.isEmpty_cons, List.isEmpty_nil, Nat.reduceLeDiff, Nat.reduceSucc, x_Me, x_meK, x_Me0, ty_ss, ty_lo, ty_ll, ty_dd, ty_lr, ap_o, up_l, pop_o, pop_l, asT_o, tru_l, tru_d, ext_o, lsts_r, lsts_t, x_chain, in_ssF, in_ssT, in_t, in_r, in_o, inK_sF, inK_sT, flat_s, flat_i, List.all_cons, List.all_nil, Bool.and_true, Bool.true_and, rev_t, rev_r, sum_r, maxL_r, minL_r, any_r, all_r, inc_ii, x_aug, x_lc, x_lc2, lcEnd_f, lcEnd_t, x_yes, x_Sl, x_oN, x_oS, asI_i, sl_t, sl_r, cut1, js_nil, js_cons, add_or, x_raise, x_raiseI, rai_2, x_try, try_nx, try_rt, try_e0, try_e2, hot_bl, x_isx, isx_1, x_fld, fld_1, L_app, in_L, x_small, x_need, lit_dg, lit_pA, lit_q, ix, d1, d2, q1, ↓ch]
      · simp only [m__law_token, x_bnd, k_ok, k_exc, k_stuck, x_giv, x_fail, selM_t, selM_f, selS_t, selS_f, sK_ok, sK_exc, sK_stuck, x_seq, seq_nx, seq_bk, seq_ct, seq_rt, seq_exc, seq_stuck, x_ret, x_retN, x_exp, x_set, x_nil, x_brk, x_cnt, x_tgt, tK_ok, tK_stuck, x_asgK, x_asg, ifK_t, ifK_f, x_if, x_fgK, fK_bk, fK_rt, fK_exc, for_src, x_fpK, fpK_nx, fpK_ct, srcK_nil, srcK_rng, x_for, x_def, defK_rt, defK_nx, defK_exc, slot_some, x_slot, x_c, x_Nil, x_consK, x_cons, x_F, x_m2K, x_m2, x_m1, x_B, x_T, asB_bl, asT_bl, asT_int, asT_non, asT_tup, asT_rol, asT_frz, x_And, x_Or, andK_t, andK_f, orK_t, orK_f, x_Not, x_AndV, x_OrV, x_andVK, x_orVK, x_NotV, x_IfE, ifEK_t, ifEK_f, x_Tup, x_Lst, x_mkF, x_mkT, x_Call, add_ii, sub_ii, neg_i, cmp_ii, eq_ii, eq_bb, eq_ss, ne_ii, ne_ss, is_n, isnot_n, non_n, non_i, non_b, non_s, non_t, non_r, non_o, ix_t, ix_r, ix_f, lst_s, ix_oo, len_oo, srcL_oo, set_oo, setO_l, opt_s, len_t, len_r, len_f, abs_i, int_i, int_b, max_ii, min_ii, gcd_ii, list_f, list_r, list_t, tuple_r, tuple_t, x_It, x_Nm, x_Tp, x_gN, x_gC, x_iE, x_iF, srcL_f, srcL_r, srcT_t, srcS_s, x_Isi, isi_tt, isi_ti, isi_tn, isi_tb, isi_ts, isi_bt, isi_bi, isi_bn, isi_bb, isi_bs, isi_st, isi_si, isi_sn, isi_sb, isi_ss, isi_it, isi_ii, isi_in, isi_ib, isi_is, at0, at1, at2, at3, ix0, ix1, ix2, ix3, whC_t, whC_f, whK_nx, whK_ct, whK_bk, whK_rt, List.map_cons, List.map_nil, List.length_cons, List.length_nil, List.replicate_succ, List.replicate_zero, List.set_cons_zero, List.set_cons_succ, List.cons_append, List.nil_append, List.append_nil, Nat.reduceAdd, Nat.reduceSub, Nat.sub_zero, Nat.sub_self, Nat.zero_add, List.getElem?_cons_zero, List.getElem?_cons_succ, decide_true, decide_false, Bool.not_true, Bool.not_false, List.isEmpty_cons, List.isEmpty_nil, Nat.reduceLeDiff, Nat.reduceSucc, x_Me, x_meK, x_Me0, ty_ss, ty_lo, ty_ll, ty_dd, ty_lr, ap_o, up_l, pop_o, pop_l, asT_o, tru_l, tru_d, ext_o, lsts_r, lsts_t, x_chain, in_ssF, in_ssT, in_t, in_r, in_o, inK_sF, inK_sT, flat_s, flat_i, List.all_cons, List.all_nil, Bool.and_true, Bool.true_and, rev_t, rev_r, sum_r, maxL_r, minL_r, any_r, all_r, inc_ii, x_aug, x_lc, x_lc2, lcEnd_f, lcEnd_t, x_yes, x_Sl, x_oN, x_oS, asI_i, sl_t, sl_r, cut1, js_nil, js_cons, add_or, x_raise, x_raiseI, rai_2, x_try, try_nx, try_rt, try_e0, try_e2, hot_bl, x_isx, isx_1, x_fld, fld_1, L_app, in_L, x_small, x_need, lit_dg, lit_lA, lit_q, ix, d1, d3, q1, e1, fd, z]
    · rw [e] at fd ch
      simp only at fd ch
      have sl := fun S => sl_at (o := false) (S := S) (k := k) hs1 (by omega) hl
      have e2 : ((i + 1 + k : Nat) : Int) + 1 = ((i + (k + 2) : Nat) : Int) := by omega
      by_cases h : 1 ≤ k ∧ k ≤ 20
      · have z1 : decide (((i + 1 + k : Nat) : Int) < (i : Int) + 2) = false := decide_eq_false (by omega)
        have z2 : decide ((i : Int) + 21 < ((i + 1 + k : Nat) : Int)) = false := decide_eq_false (by omega)
        have h1 : ∀ S, m__choice_at [.str (L l), .int (i : Int)] S = .ok (.tup [.str "choice", .str (L (r.take k)), .int ((i + (k + 2) : Nat) : Int)]) S := fun S => (ch S).trans (if_pos h)
        refine .inl ⟨"choice", .str (L (r.take k)), k + 2, by omega, by omega, trivial, fun S => ?_, fun S => ?_⟩
        · simp only [m__token_at, x_bnd, k_ok, k_exc, k_stuck, x_giv, x_fail, selM_t, selM_f, selS_t, selS_f, sK_ok, sK_exc, sK_stuck, x_seq, seq_nx, seq_bk, seq_ct, seq_rt, seq_exc, seq_stuck, x_ret, x_retN, x_exp, x_set, x_nil, x_brk, x_cnt, x_tgt, tK_ok, tK_stuck, x_asgK, x_asg, ifK_t, ifK_f, x_if, x_fgK, fK_bk, fK_rt, fK_exc, for_src, x_fpK, fpK_nx, fpK_ct, srcK_nil, srcK_rng, x_for, x_def, defK_rt, defK_nx, defK_exc, slot_some, x_slot, x_c, x_Nil, x_consK, x_cons, x_F, x_m2K, x_m2, x_m1, x_B, x_T, asB_bl, asT_bl, asT_int, asT_non, asT_tup, asT_rol, asT_frz, x_And, x_Or, andK_t, andK_f, orK_t, orK_f, x_Not, x_AndV, x_OrV, x_andVK, x_orVK, x_NotV, x_IfE, ifEK_t, ifEK_f, x_Tup, x_Lst, x_mkF, x_mkT, x_Call, add_ii, sub_ii, neg_i, cmp_ii, eq_ii, eq_bb, eq_ss, ne_ii, ne_ss, is_n, isnot_n, non_n, non_i, non_b, non_s, non_t, non_r, non_o, ix_t, ix_r, ix_f, lst_s, ix_oo, len_oo, srcL_oo, set_oo, setO_l, opt_s, len_t, len_r, len_f, abs_i, int_i, int_b, max_ii, min_ii, gcd_ii, list_f, list_r, list_t, tuple_r, tuple_t, x_It, x_Nm, x_Tp, x_gN, x_gC, x_iE, x_iF, srcL_f, srcL_r, srcT_t, srcS_s, x_Isi, isi_tt, isi_ti, isi_tn, isi_tb, isi_ts, isi_bt, isi_bi, isi_bn, isi_bb, isi_bs, isi_st, isi_si, isi_sn, isi_sb, isi_ss, isi_it, isi_ii, isi_in, isi_ib, isi_is, at0, at1, at2, at3, ix0, ix1, ix2, ix3, whC_t, whC_f, whK_nx, whK_ct, whK_bk, whK_rt, List.map_cons, List.map_nil, List.length_cons, List.length_nil, List.replicate_succ, List.replicate_zero, List.set_cons_zero, List.set_cons_succ, List.cons_append, List.nil_append, List.append_nil, Nat.reduceAdd, Nat.reduceSub, Nat.sub_zero, Nat.sub_self, Nat.zero_add, List.getElem?_cons_zero, List.getElem?_cons_succ, decide_true, decide_false, Bool.not_true, Bool.not_false, List.isEmpty_cons, List.isEmpty_nil, Nat.reduceLeDiff, Nat.reduceSucc, x_Me, x_meK, x_Me0, ty_ss, ty_lo, ty_ll, ty_dd, ty_lr, ap_o, up_l, pop_o, pop_l, asT_o, tru_l, tru_d, ext_o, lsts_r, lsts_t, x_chain, in_ssF, in_ssT, in_t, in_r, in_o, inK_sF, inK_sT, flat_s, flat_i, List.all_cons, List.all_nil, Bool.and_true, Bool.true_and, rev_t, rev_r, sum_r, maxL_r, minL_r, any_r, all_r, inc_ii, x_aug, x_lc, x_lc2, lcEnd_f, lcEnd_t, x_yes, x_Sl, x_oN, x_oS, asI_i, sl_t, sl_r, cut1, js_nil, js_cons, add_or, x_raise, x_raiseI, rai_2, x_try, try_nx, try_rt, try_e0, try_e2, hot_bl, x_isx, isx_1, x_fld, fld_1, L_app, in_L, x_small, x_need, lit_dg, lit_pA, lit_q, ix, d1, d2, q1, ↓h1]
        · simp only [m__law_token, x_bnd, k_ok, k_exc, k_stuck, x_giv, x_fail, selM_t, selM_f, selS_t, selS_f, sK_ok, sK_exc, sK_stuck, x_seq, seq_nx, seq_bk, seq_ct, seq_rt, seq_exc, seq_stuck, x_ret, x_retN, x_exp, x_set, x_nil, x_brk, x_cnt, x_tgt, tK_ok, tK_stuck, x_asgK, x_asg, ifK_t, ifK_f, x_if, x_fgK, fK_bk, fK_rt, fK_exc, for_src, x_fpK, fpK_nx, fpK_ct, srcK_nil, srcK_rng, x_for, x_def, defK_rt, defK_nx, defK_exc, slot_some, x_slot, x_c, x_Nil, x_consK, x_cons, x_F, x_m2K, x_m2, x_m1, x_B, x_T, asB_bl, asT_bl, asT_int, asT_non, asT_tup, asT_rol, asT_frz, x_And, x_Or, andK_t, andK_f, orK_t, orK_f, x_Not, x_AndV, x_OrV, x_andVK, x_orVK, x_NotV, x_IfE, ifEK_t, ifEK_f, x_Tup, x_Lst, x_mkF, x_mkT, x_Call, add_ii, sub_ii, neg_i, cmp_ii, eq_ii, eq_bb, eq_ss, ne_ii, ne_ss, is_n, isnot_n, non_n, non_i, non_b, non_s, non_t, non_r, non_o, ix_t, ix_r, ix_f, lst_s, ix_oo, len_oo, srcL_oo, set_oo, setO_l, opt_s, len_t, len_r, len_f, abs_i, int_i, int_b, max_ii, min_ii, gcd_ii, list_f, list_r, list_t, tuple_r, tuple_t, x_It, x_Nm, x_Tp, x_gN, x_gC, x_iE, x_iF, srcL_f, srcL_r, srcT_t, srcS_s, x_Isi, isi_tt, isi_ti, isi_tn, isi_tb, isi_ts, isi_bt, isi_bi, isi_bn, isi_bb, isi_bs, isi_st, isi_si, isi_sn, isi_sb, isi_ss, isi_it, isi_ii, isi_in, isi_ib, isi_is, at0, at1, at2, at3, ix0, ix1, ix2, ix3, whC_t, whC_f, whK_nx, whK_ct, whK_bk, whK_rt, List.map_cons, List.map_nil, List.length_cons, List.length_nil, List.replicate_succ, List.replicate_zero, List.set_cons_zero, List.set_cons_succ, List.cons_append, List.nil_append, List.append_nil, Nat.reduceAdd, Nat.reduceSub, Nat.sub_zero, Nat.sub_self, Nat.zero_add, List.getElem?_cons_zero, List.getElem?_cons_succ, decide_true, decide_false, Bool.not_true, Bool.not_false, List.isEmpty_cons, List.isEmpty_nil, Nat.reduceLeDiff, Nat.reduceSucc, x_Me, x_meK, x_Me0, ty_ss, ty_lo, ty_ll, ty_dd, ty_lr, ap_o, up_l, pop_o, pop_l, asT_o, tru_l, tru_d, ext_o, lsts_r, lsts_t, x_chain, in_ssF, in_ssT, in_t, in_r, in_o, inK_sF, inK_sT, flat_s, flat_i, List.all_cons, List.all_nil, Bool.and_true, Bool.true_and, rev_t, rev_r, sum_r, maxL_r, minL_r, any_r, all_r, inc_ii, x_aug, x_lc, x_lc2, lcEnd_f, lcEnd_t, x_yes, x_Sl, x_oN, x_oS, asI_i, sl_t, sl_r, cut1, js_nil, js_cons, add_or, x_raise, x_raiseI, rai_2, x_try, try_nx, try_rt, try_e0, try_e2, hot_bl, x_isx, isx_1, x_fld, fld_1, L_app, in_L, x_small, x_need, lit_dg, lit_lA, lit_q, ix, d1, d3, q1, e1, fd, z1, z2, sl, e2]
      · have h1 : ∀ S, m__choice_at [.str (L l), .int (i : Int)] S = .exc ⟨"FormulaError", [("reason", .str "choice"), ("place", .int (i : Int))]⟩ S := fun S => (ch S).trans (if_neg h)
        refine .inr ⟨"choice", fun S => ?_, fun S => ?_⟩
        · simp only [m__token_at, x_bnd, k_ok, k_exc, k_stuck, x_giv, x_fail, selM_t, selM_f, selS_t, selS_f, sK_ok, sK_exc, sK_stuck, x_seq, seq_nx, seq_bk, seq_ct, seq_rt, seq_exc, seq_stuck, x_ret, x_retN, x_exp, x_set, x_nil, x_brk, x_cnt, x_tgt, tK_ok, tK_stuck, x_asgK, x_asg, ifK_t, ifK_f, x_if, x_fgK, fK_bk, fK_rt, fK_exc, for_src, x_fpK, fpK_nx, fpK_ct, srcK_nil, srcK_rng, x_for, x_def, defK_rt, defK_nx, defK_exc, slot_some, x_slot, x_c, x_Nil, x_consK, x_cons, x_F, x_m2K, x_m2, x_m1, x_B, x_T, asB_bl, asT_bl, asT_int, asT_non, asT_tup, asT_rol, asT_frz, x_And, x_Or, andK_t, andK_f, orK_t, orK_f, x_Not, x_AndV, x_OrV, x_andVK, x_orVK, x_NotV, x_IfE, ifEK_t, ifEK_f, x_Tup, x_Lst, x_mkF, x_mkT, x_Call, add_ii, sub_ii, neg_i, cmp_ii, eq_ii, eq_bb, eq_ss, ne_ii, ne_ss, is_n, isnot_n, non_n, non_i, non_b, non_s, non_t, non_r, non_o, ix_t, ix_r, ix_f, lst_s, ix_oo, len_oo, srcL_oo, set_oo, setO_l, opt_s, len_t, len_r, len_f, abs_i, int_i, int_b, max_ii, min_ii, gcd_ii, list_f, list_r, list_t, tuple_r, tuple_t, x_It, x_Nm, x_Tp, x_gN, x_gC, x_iE, x_iF, srcL_f, srcL_r, srcT_t, srcS_s, x_Isi, isi_tt, isi_ti, isi_tn, isi_tb, isi_ts, isi_bt, isi_bi, isi_bn, isi_bb, isi_bs, isi_st, isi_si, isi_sn, isi_sb, isi_ss, isi_it, isi_ii, isi_in, isi_ib, isi_is, at0, at1, at2, at3, ix0, ix1, ix2, ix3, whC_t, whC_f, whK_nx, whK_ct, whK_bk, whK_rt, List.map_cons, List.map_nil, List.length_cons, List.length_nil, List.replicate_succ, List.replicate_zero, List.set_cons_zero, List.set_cons_succ, List.cons_append, List.nil_append, List.append_nil, Nat.reduceAdd, Nat.reduceSub, Nat.sub_zero, Nat.sub_self, Nat.zero_add, List.getElem?_cons_zero, List.getElem?_cons_succ, decide_true, decide_false, Bool.not_true, Bool.not_false, List.isEmpty_cons, List.isEmpty_nil, Nat.reduceLeDiff, Nat.reduceSucc, x_Me, x_meK, x_Me0, ty_ss, ty_lo, ty_ll, ty_dd, ty_lr, ap_o, up_l, pop_o, pop_l, asT_o, tru_l, tru_d, ext_o, lsts_r, lsts_t, x_chain, in_ssF, in_ssT, in_t, in_r, in_o, inK_sF, inK_sT, flat_s, flat_i, List.all_cons, List.all_nil, Bool.and_true, Bool.true_and, rev_t, rev_r, sum_r, maxL_r, minL_r, any_r, all_r, inc_ii, x_aug, x_lc, x_lc2, lcEnd_f, lcEnd_t, x_yes, x_Sl, x_oN, x_oS, asI_i, sl_t, sl_r, cut1, js_nil, js_cons, add_or, x_raise, x_raiseI, rai_2, x_try, try_nx, try_rt, try_e0, try_e2, hot_bl, x_isx, isx_1, x_fld, fld_1, L_app, in_L, x_small, x_need, lit_dg, lit_pA, lit_q, ix, d1, d2, q1, ↓h1]
        · by_cases h0 : 1 ≤ k
          · have z1 : decide (((i + 1 + k : Nat) : Int) < (i : Int) + 2) = false := decide_eq_false (by omega)
            have z2 : decide ((i : Int) + 21 < ((i + 1 + k : Nat) : Int)) = true := decide_eq_true (by omega)
            simp only [m__law_token, x_bnd, k_ok, k_exc, k_stuck, x_giv, x_fail, selM_t, selM_f, selS_t, selS_f, sK_ok, sK_exc, sK_stuck, x_seq, seq_nx, seq_bk, seq_ct, seq_rt, seq_exc, seq_stuck, x_ret, x_retN, x_exp, x_set, x_nil, x_brk, x_cnt, x_tgt, tK_ok, tK_stuck, x_asgK, x_asg, ifK_t, ifK_f, x_if, x_fgK, fK_bk, fK_rt, fK_exc, for_src, x_fpK, fpK_nx, fpK_ct, srcK_nil, srcK_rng, x_for, x_def, defK_rt, defK_nx, defK_exc, slot_some, x_slot, x_c, x_Nil, x_consK, x_cons, x_F, x_m2K, x_m2, x_m1, x_B, x_T, asB_bl, asT_bl, asT_int, asT_non, asT_tup, asT_rol, asT_frz, x_And, x_Or, andK_t, andK_f, orK_t, orK_f, x_Not, x_AndV, x_OrV, x_andVK, x_orVK, x_NotV, x_IfE, ifEK_t, ifEK_f, x_Tup, x_Lst, x_mkF, x_mkT, x_Call, add_ii, sub_ii, neg_i, cmp_ii, eq_ii, eq_bb, eq_ss, ne_ii, ne_ss, is_n, isnot_n, non_n, non_i, non_b, non_s, non_t, non_r, non_o, ix_t, ix_r, ix_f, lst_s, ix_oo, len_oo, srcL_oo, set_oo, setO_l, opt_s, len_t, len_r, len_f, abs_i, int_i, int_b, max_ii, min_ii, gcd_ii, list_f, list_r, list_t, tuple_r, tuple_t, x_It, x_Nm, x_Tp, x_gN, x_gC, x_iE, x_iF, srcL_f, srcL_r, srcT_t, srcS_s, x_Isi, isi_tt, isi_ti, isi_tn, isi_tb, isi_ts, isi_bt, isi_bi, isi_bn, isi_bb, isi_bs, isi_st, isi_si, isi_sn, isi_sb, isi_ss, isi_it, isi_ii, isi_in, isi_ib, isi_is, at0, at1, at2, at3, ix0, ix1, ix2, ix3, whC_t, whC_f, whK_nx, whK_ct, whK_bk, whK_rt, List.map_cons, List.map_nil, List.length_cons, List.length_nil, List.replicate_succ, List.replicate_zero, List.set_cons_zero, List.set_cons_succ, List.cons_append, List.nil_append, List.append_nil, Nat.reduceAdd, Nat.reduceSub, Nat.sub_zero, Nat.sub_self, Nat.zero_add, List.getElem?_cons_zero, List.getElem?_cons_succ, decide_true, decide_false, Bool.not_true, Bool.not_false, List.isEmpty_cons, List.isEmpty_nil, Nat.reduceLeDiff, Nat.reduceSucc, x_Me, x_meK, x_Me0, ty_ss, ty_lo, ty_ll, ty_dd, ty_lr, ap_o, up_l, pop_o, pop_l, asT_o, tru_l, tru_d, ext_o, lsts_r, lsts_t, x_chain, in_ssF, in_ssT, in_t, in_r, in_o, inK_sF, inK_sT, flat_s, flat_i, List.all_cons, List.all_nil, Bool.and_true, Bool.true_and, rev_t, rev_r, sum_r, maxL_r, minL_r, any_r, all_r, inc_ii, x_aug, x_lc, x_lc2, lcEnd_f, lcEnd_t, x_yes, x_Sl, x_oN, x_oS, asI_i, sl_t, sl_r, cut1, js_nil, js_cons, add_or, x_raise, x_raiseI, rai_2, x_try, try_nx, try_rt, try_e0, try_e2, hot_bl, x_isx, isx_1, x_fld, fld_1, L_app, in_L, x_small, x_need, lit_dg, lit_lA, lit_q, ix, d1, d3, q1, e1, fd, z1, z2]
          · have z1 : decide (((i + 1 + k : Nat) : Int) < (i : Int) + 2) = true := decide_eq_true (by omega)
            simp only [m__law_token, x_bnd, k_ok, k_exc, k_stuck, x_giv, x_fail, selM_t, selM_f, selS_t, selS_f, sK_ok, sK_exc, sK_stuck, x_seq, seq_nx, seq_bk, seq_ct, seq_rt, seq_exc, seq_stuck, x_ret, x_retN, x_exp, x_set, x_nil, x_brk, x_cnt, x_tgt, tK_ok, tK_stuck, x_asgK, x_asg, ifK_t, ifK_f, x_if, x_fgK, fK_bk, fK_rt, fK_exc, for_src, x_fpK, fpK_nx, fpK_ct, srcK_nil, srcK_rng, x_for, x_def, defK_rt, defK_nx, defK_exc, slot_some, x_slot, x_c, x_Nil, x_consK, x_cons, x_F, x_m2K, x_m2, x_m1, x_B, x_T, asB_bl, asT_bl, asT_int, asT_non, asT_tup, asT_rol, asT_frz, x_And, x_Or, andK_t, andK_f, orK_t, orK_f, x_Not, x_AndV, x_OrV, x_andVK, x_orVK, x_NotV, x_IfE, ifEK_t, ifEK_f, x_Tup, x_Lst, x_mkF, x_mkT, x_Call, add_ii, sub_ii, neg_i, cmp_ii, eq_ii, eq_bb, eq_ss, ne_ii, ne_ss, is_n, isnot_n, non_n, non_i, non_b, non_s, non_t, non_r, non_o, ix_t, ix_r, ix_f, lst_s, ix_oo, len_oo, srcL_oo, set_oo, setO_l, opt_s, len_t, len_r, len_f, abs_i, int_i, int_b, max_ii, min_ii, gcd_ii, list_f, list_r, list_t, tuple_r, tuple_t, x_It, x_Nm, x_Tp, x_gN, x_gC, x_iE, x_iF, srcL_f, srcL_r, srcT_t, srcS_s, x_Isi, isi_tt, isi_ti, isi_tn, isi_tb, isi_ts, isi_bt, isi_bi, isi_bn, isi_bb, isi_bs, isi_st, isi_si, isi_sn, isi_sb, isi_ss, isi_it, isi_ii, isi_in, isi_ib, isi_is, at0, at1, at2, at3, ix0, ix1, ix2, ix3, whC_t, whC_f, whK_nx, whK_ct, whK_bk, whK_rt, List.map_cons, List.map_nil, List.length_cons, List.length_nil, List.replicate_succ, List.replicate_zero, List.set_cons_zero, List.set_cons_succ, List.cons_append, List.nil_append, List.append_nil, Nat.reduceAdd, Nat.reduceSub, Nat.sub_zero, Nat.sub_self, Nat.zero_add, List.getElem?_cons_zero, List.getElem?_cons_succ, decide_true, decide_false, Bool.not_true, Bool.not_false, List.isEmpty_cons, List.isEmpty_nil, Nat.reduceLeDiff, Nat.reduceSucc, x_Me, x_meK, x_Me0, ty_ss, ty_lo, ty_ll, ty_dd, ty_lr, ap_o, up_l, pop_o, pop_l, asT_o, tru_l, tru_d, ext_o, lsts_r, lsts_t, x_chain, in_ssF, in_ssT, in_t, in_r, in_o, inK_sF, inK_sT, flat_s, flat_i, List.all_cons, List.all_nil, Bool.and_true, Bool.true_and, rev_t, rev_r, sum_r, maxL_r, minL_r, any_r, all_r, inc_ii, x_aug, x_lc, x_lc2, lcEnd_f, lcEnd_t, x_yes, x_Sl, x_oN, x_oS, asI_i, sl_t, sl_r, cut1, js_nil, js_cons, add_or, x_raise, x_raiseI, rai_2, x_try, try_nx, try_rt, try_e0, try_e2, hot_bl, x_isx, isx_1, x_fld, fld_1, L_app, in_L, x_small, x_need, lit_dg, lit_lA, lit_q, ix, d1, d3, q1, e1, fd, z1]
  have q34 : decide (L [c] = L [34]) = false := by rw [one_eq]; exact decide_eq_false h34
  by_cases h91 : c = 91
  · subst h91
    have q91 : decide (L [91] = L [91]) = true := decide_eq_true rfl
    have ab := above_agree hs hl
    have sl := fun S => sl_at (o := false) (S := S) (k := 4) hs hi hl
    have e4 : (i : Int) + 4 = ((i + 4 : Nat) : Int) := rfl
    by_cases h : (91 :: r).take 4 = [91, 45, 49, 93]
    · have h1 : ∀ S, m__above_at [.str (L l), .int (i : Int)] S = .ok (.tup [.str "above", .str (L [91, 45, 49, 93]), .int ((i + 4 : Nat) : Int)]) S := fun S => (ab S).trans (if_pos h)
      have q : decide (L ((91 :: r).take 4) = L [91, 45, 49, 93]) = true := decide_eq_true (by rw [h])
      have ll := congrArg List.length h
      rw [List.length_take] at ll
      refine .inl ⟨"above", .str (L [91, 45, 49, 93]), 4, by omega, by simp at ll n; omega, trivial, fun S => ?_, fun S => ?_⟩
      · simp only [m__token_at, x_bnd, k_ok, k_exc, k_stuck, x_giv, x_fail, selM_t, selM_f, selS_t, selS_f, sK_ok, sK_exc, sK_stuck, x_seq, seq_nx, seq_bk, seq_ct, seq_rt, seq_exc, seq_stuck, x_ret, x_retN, x_exp, x_set, x_nil, x_brk, x_cnt, x_tgt, tK_ok, tK_stuck, x_asgK, x_asg, ifK_t, ifK_f, x_if, x_fgK, fK_bk, fK_rt, fK_exc, for_src, x_fpK, fpK_nx, fpK_ct, srcK_nil, srcK_rng, x_for, x_def, defK_rt, defK_nx, defK_exc, slot_some, x_slot, x_c, x_Nil, x_consK, x_cons, x_F, x_m2K, x_m2, x_m1, x_B, x_T, asB_bl, asT_bl, asT_int, asT_non, asT_tup, asT_rol, asT_frz, x_And, x_Or, andK_t, andK_f, orK_t, orK_f, x_Not, x_AndV, x_OrV, x_andVK, x_orVK, x_NotV, x_IfE, ifEK_t, ifEK_f, x_Tup, x_Lst, x_mkF, x_mkT, x_Call, add_ii, sub_ii, neg_i, cmp_ii, eq_ii, eq_bb, eq_ss, ne_ii, ne_ss, is_n, isnot_n, non_n, non_i, non_b, non_s, non_t, non_r, non_o, ix_t, ix_r, ix_f, lst_s, ix_oo, len_oo, srcL_oo, set_oo, setO_l, opt_s, len_t, len_r, len_f, abs_i, int_i, int_b, max_ii, min_ii, gcd_ii, list_f, list_r, list_t, tuple_r, tuple_t, x_It, x_Nm, x_Tp, x_gN, x_gC, x_iE, x_iF, srcL_f, srcL_r, srcT_t, srcS_s, x_Isi, isi_tt, isi_ti, isi_tn, isi_tb, isi_ts, isi_bt, isi_bi, isi_bn, isi_bb, isi_bs, isi_st, isi_si, isi_sn, isi_sb, isi_ss, isi_it, isi_ii, isi_in, isi_ib, isi_is, at0, at1, at2, at3, ix0, ix1, ix2, ix3, whC_t, whC_f, whK_nx, whK_ct, whK_bk, whK_rt, List.map_cons, List.map_nil, List.length_cons, List.length_nil, List.replicate_succ, List.replicate_zero, List.set_cons_zero, List.set_cons_succ, List.cons_append, List.nil_append, List.append_nil, Nat.reduceAdd, Nat.reduceSub, Nat.sub_zero, Nat.sub_self, Nat.zero_add, List.getElem?_cons_zero, List.getElem?_cons_succ, decide_true, decide_false, Bool.not_true, Bool.not_false, List.isEmpty_cons, List.isEmpty_nil, Nat.reduceLeDiff, Nat.reduceSucc, x_Me, x_meK, x_Me0, ty_ss, ty_lo, ty_ll, ty_dd, ty_lr, ap_o, up_l, pop_o, pop_l, asT_o, tru_l, tru_d, ext_o, lsts_r, lsts_t, x_chain, in_ssF, in_ssT, in_t, in_r, in_o, inK_sF, inK_sT, flat_s, flat_i, List.all_cons, List.all_nil, Bool.and_true, Bool.true_and, rev_t, rev_r, sum_r, maxL_r, minL_r, any_r, all_r, inc_ii, x_aug, x_lc, x_lc2, lcEnd_f, lcEnd_t, x_yes, x_Sl, x_oN, x_oS, asI_i, sl_t, sl_r, cut1, js_nil, js_cons, add_or, x_raise, x_raiseI, rai_2, x_try, try_nx, try_rt, try_e0, try_e2, hot_bl, x_isx, isx_1, x_fld, fld_1, L_app, in_L, x_small, x_need, lit_dg, lit_pA, lit_q, lit_br, ix, d1, d2, q34, q91, ↓h1]
      · simp only [m__law_token, x_bnd, k_ok, k_exc, k_stuck, x_giv, x_fail, selM_t, selM_f, selS_t, selS_f, sK_ok, sK_exc, sK_stuck, x_seq, seq_nx, seq_bk, seq_ct, seq_rt, seq_exc, seq_stuck, x_ret, x_retN, x_exp, x_set, x_nil, x_brk, x_cnt, x_tgt, tK_ok, tK_stuck, x_asgK, x_asg, ifK_t, ifK_f, x_if, x_fgK, fK_bk, fK_rt, fK_exc, for_src, x_fpK, fpK_nx, fpK_ct, srcK_nil, srcK_rng, x_for, x_def, defK_rt, defK_nx, defK_exc, slot_some, x_slot, x_c, x_Nil, x_consK, x_cons, x_F, x_m2K, x_m2, x_m1, x_B, x_T, asB_bl, asT_bl, asT_int, asT_non, asT_tup, asT_rol, asT_frz, x_And, x_Or, andK_t, andK_f, orK_t, orK_f, x_Not, x_AndV, x_OrV, x_andVK, x_orVK, x_NotV, x_IfE, ifEK_t, ifEK_f, x_Tup, x_Lst, x_mkF, x_mkT, x_Call, add_ii, sub_ii, neg_i, cmp_ii, eq_ii, eq_bb, eq_ss, ne_ii, ne_ss, is_n, isnot_n, non_n, non_i, non_b, non_s, non_t, non_r, non_o, ix_t, ix_r, ix_f, lst_s, ix_oo, len_oo, srcL_oo, set_oo, setO_l, opt_s, len_t, len_r, len_f, abs_i, int_i, int_b, max_ii, min_ii, gcd_ii, list_f, list_r, list_t, tuple_r, tuple_t, x_It, x_Nm, x_Tp, x_gN, x_gC, x_iE, x_iF, srcL_f, srcL_r, srcT_t, srcS_s, x_Isi, isi_tt, isi_ti, isi_tn, isi_tb, isi_ts, isi_bt, isi_bi, isi_bn, isi_bb, isi_bs, isi_st, isi_si, isi_sn, isi_sb, isi_ss, isi_it, isi_ii, isi_in, isi_ib, isi_is, at0, at1, at2, at3, ix0, ix1, ix2, ix3, whC_t, whC_f, whK_nx, whK_ct, whK_bk, whK_rt, List.map_cons, List.map_nil, List.length_cons, List.length_nil, List.replicate_succ, List.replicate_zero, List.set_cons_zero, List.set_cons_succ, List.cons_append, List.nil_append, List.append_nil, Nat.reduceAdd, Nat.reduceSub, Nat.sub_zero, Nat.sub_self, Nat.zero_add, List.getElem?_cons_zero, List.getElem?_cons_succ, decide_true, decide_false, Bool.not_true, Bool.not_false, List.isEmpty_cons, List.isEmpty_nil, Nat.reduceLeDiff, Nat.reduceSucc, x_Me, x_meK, x_Me0, ty_ss, ty_lo, ty_ll, ty_dd, ty_lr, ap_o, up_l, pop_o, pop_l, asT_o, tru_l, tru_d, ext_o, lsts_r, lsts_t, x_chain, in_ssF, in_ssT, in_t, in_r, in_o, inK_sF, inK_sT, flat_s, flat_i, List.all_cons, List.all_nil, Bool.and_true, Bool.true_and, rev_t, rev_r, sum_r, maxL_r, minL_r, any_r, all_r, inc_ii, x_aug, x_lc, x_lc2, lcEnd_f, lcEnd_t, x_yes, x_Sl, x_oN, x_oS, asI_i, sl_t, sl_r, cut1, js_nil, js_cons, add_or, x_raise, x_raiseI, rai_2, x_try, try_nx, try_rt, try_e0, try_e2, hot_bl, x_isx, isx_1, x_fld, fld_1, L_app, in_L, x_small, x_need, lit_dg, lit_lA, lit_q, lit_br, lit_ab, ix, d1, d3, q34, q91, e4, sl, q]
    · have h1 : ∀ S, m__above_at [.str (L l), .int (i : Int)] S = .exc ⟨"FormulaError", [("reason", .str "above"), ("place", .int (i : Int))]⟩ S := fun S => (ab S).trans (if_neg h)
      have q : decide (L ((91 :: r).take 4) = L [91, 45, 49, 93]) = false := decide_eq_false fun z => h (L_inj z)
      refine .inr ⟨"above", fun S => ?_, fun S => ?_⟩
      · simp only [m__token_at, x_bnd, k_ok, k_exc, k_stuck, x_giv, x_fail, selM_t, selM_f, selS_t, selS_f, sK_ok, sK_exc, sK_stuck, x_seq, seq_nx, seq_bk, seq_ct, seq_rt, seq_exc, seq_stuck, x_ret, x_retN, x_exp, x_set, x_nil, x_brk, x_cnt, x_tgt, tK_ok, tK_stuck, x_asgK, x_asg, ifK_t, ifK_f, x_if, x_fgK, fK_bk, fK_rt, fK_exc, for_src, x_fpK, fpK_nx, fpK_ct, srcK_nil, srcK_rng, x_for, x_def, defK_rt, defK_nx, defK_exc, slot_some, x_slot, x_c, x_Nil, x_consK, x_cons, x_F, x_m2K, x_m2, x_m1, x_B, x_T, asB_bl, asT_bl, asT_int, asT_non, asT_tup, asT_rol, asT_frz, x_And, x_Or, andK_t, andK_f, orK_t, orK_f, x_Not, x_AndV, x_OrV, x_andVK, x_orVK, x_NotV, x_IfE, ifEK_t, ifEK_f, x_Tup, x_Lst, x_mkF, x_mkT, x_Call, add_ii, sub_ii, neg_i, cmp_ii, eq_ii, eq_bb, eq_ss, ne_ii, ne_ss, is_n, isnot_n, non_n, non_i, non_b, non_s, non_t, non_r, non_o, ix_t, ix_r, ix_f, lst_s, ix_oo, len_oo, srcL_oo, set_oo, setO_l, opt_s, len_t, len_r, len_f, abs_i, int_i, int_b, max_ii, min_ii, gcd_ii, list_f, list_r, list_t, tuple_r, tuple_t, x_It, x_Nm, x_Tp, x_gN, x_gC, x_iE, x_iF, srcL_f, srcL_r, srcT_t, srcS_s, x_Isi, isi_tt, isi_ti, isi_tn, isi_tb, isi_ts, isi_bt, isi_bi, isi_bn, isi_bb, isi_bs, isi_st, isi_si, isi_sn, isi_sb, isi_ss, isi_it, isi_ii, isi_in, isi_ib, isi_is, at0, at1, at2, at3, ix0, ix1, ix2, ix3, whC_t, whC_f, whK_nx, whK_ct, whK_bk, whK_rt, List.map_cons, List.map_nil, List.length_cons, List.length_nil, List.replicate_succ, List.replicate_zero, List.set_cons_zero, List.set_cons_succ, List.cons_append, List.nil_append, List.append_nil, Nat.reduceAdd, Nat.reduceSub, Nat.sub_zero, Nat.sub_self, Nat.zero_add, List.getElem?_cons_zero, List.getElem?_cons_succ, decide_true, decide_false, Bool.not_true, Bool.not_false, List.isEmpty_cons, List.isEmpty_nil, Nat.reduceLeDiff, Nat.reduceSucc, x_Me, x_meK, x_Me0, ty_ss, ty_lo, ty_ll, ty_dd, ty_lr, ap_o, up_l, pop_o, pop_l, asT_o, tru_l, tru_d, ext_o, lsts_r, lsts_t, x_chain, in_ssF, in_ssT, in_t, in_r, in_o, inK_sF, inK_sT, flat_s, flat_i, List.all_cons, List.all_nil, Bool.and_true, Bool.true_and, rev_t, rev_r, sum_r, maxL_r, minL_r, any_r, all_r, inc_ii, x_aug, x_lc, x_lc2, lcEnd_f, lcEnd_t, x_yes, x_Sl, x_oN, x_oS, asI_i, sl_t, sl_r, cut1, js_nil, js_cons, add_or, x_raise, x_raiseI, rai_2, x_try, try_nx, try_rt, try_e0, try_e2, hot_bl, x_isx, isx_1, x_fld, fld_1, L_app, in_L, x_small, x_need, lit_dg, lit_pA, lit_q, lit_br, ix, d1, d2, q34, q91, ↓h1]
      · simp only [m__law_token, x_bnd, k_ok, k_exc, k_stuck, x_giv, x_fail, selM_t, selM_f, selS_t, selS_f, sK_ok, sK_exc, sK_stuck, x_seq, seq_nx, seq_bk, seq_ct, seq_rt, seq_exc, seq_stuck, x_ret, x_retN, x_exp, x_set, x_nil, x_brk, x_cnt, x_tgt, tK_ok, tK_stuck, x_asgK, x_asg, ifK_t, ifK_f, x_if, x_fgK, fK_bk, fK_rt, fK_exc, for_src, x_fpK, fpK_nx, fpK_ct, srcK_nil, srcK_rng, x_for, x_def, defK_rt, defK_nx, defK_exc, slot_some, x_slot, x_c, x_Nil, x_consK, x_cons, x_F, x_m2K, x_m2, x_m1, x_B, x_T, asB_bl, asT_bl, asT_int, asT_non, asT_tup, asT_rol, asT_frz, x_And, x_Or, andK_t, andK_f, orK_t, orK_f, x_Not, x_AndV, x_OrV, x_andVK, x_orVK, x_NotV, x_IfE, ifEK_t, ifEK_f, x_Tup, x_Lst, x_mkF, x_mkT, x_Call, add_ii, sub_ii, neg_i, cmp_ii, eq_ii, eq_bb, eq_ss, ne_ii, ne_ss, is_n, isnot_n, non_n, non_i, non_b, non_s, non_t, non_r, non_o, ix_t, ix_r, ix_f, lst_s, ix_oo, len_oo, srcL_oo, set_oo, setO_l, opt_s, len_t, len_r, len_f, abs_i, int_i, int_b, max_ii, min_ii, gcd_ii, list_f, list_r, list_t, tuple_r, tuple_t, x_It, x_Nm, x_Tp, x_gN, x_gC, x_iE, x_iF, srcL_f, srcL_r, srcT_t, srcS_s, x_Isi, isi_tt, isi_ti, isi_tn, isi_tb, isi_ts, isi_bt, isi_bi, isi_bn, isi_bb, isi_bs, isi_st, isi_si, isi_sn, isi_sb, isi_ss, isi_it, isi_ii, isi_in, isi_ib, isi_is, at0, at1, at2, at3, ix0, ix1, ix2, ix3, whC_t, whC_f, whK_nx, whK_ct, whK_bk, whK_rt, List.map_cons, List.map_nil, List.length_cons, List.length_nil, List.replicate_succ, List.replicate_zero, List.set_cons_zero, List.set_cons_succ, List.cons_append, List.nil_append, List.append_nil, Nat.reduceAdd, Nat.reduceSub, Nat.sub_zero, Nat.sub_self, Nat.zero_add, List.getElem?_cons_zero, List.getElem?_cons_succ, decide_true, decide_false, Bool.not_true, Bool.not_false, List.isEmpty_cons, List.isEmpty_nil, Nat.reduceLeDiff, Nat.reduceSucc, x_Me, x_meK, x_Me0, ty_ss, ty_lo, ty_ll, ty_dd, ty_lr, ap_o, up_l, pop_o, pop_l, asT_o, tru_l, tru_d, ext_o, lsts_r, lsts_t, x_chain, in_ssF, in_ssT, in_t, in_r, in_o, inK_sF, inK_sT, flat_s, flat_i, List.all_cons, List.all_nil, Bool.and_true, Bool.true_and, rev_t, rev_r, sum_r, maxL_r, minL_r, any_r, all_r, inc_ii, x_aug, x_lc, x_lc2, lcEnd_f, lcEnd_t, x_yes, x_Sl, x_oN, x_oS, asI_i, sl_t, sl_r, cut1, js_nil, js_cons, add_or, x_raise, x_raiseI, rai_2, x_try, try_nx, try_rt, try_e0, try_e2, hot_bl, x_isx, isx_1, x_fld, fld_1, L_app, in_L, x_small, x_need, lit_dg, lit_lA, lit_q, lit_br, lit_ab, ix, d1, d3, q34, q91, e4, sl, q]
  have q91 : decide (L [c] = L [91]) = false := by rw [one_eq]; exact decide_eq_false h91
  have sl := fun S => sl_at (o := false) (S := S) (k := 2) hs hi hl
  have e2 : (i : Int) + 2 = ((i + 2 : Nat) : Int) := rfl
  have e1 : (i : Int) + 1 = ((i + 1 : Nat) : Int) := rfl
  obtain ⟨t2, ht2⟩ : ∃ t2, (c :: r).take 2 = t2 := ⟨_, rfl⟩
  rw [ht2] at sl
  have law2 : (t2 = [60, 61] ∨ t2 = [60, 62] ∨ t2 = [62, 61]) → ∀ S, m__law_token [.str (L l), .int (i : Int)] S = .ok (.tup [.int ((i + 2 : Nat) : Int), .str "symbol", .str (L t2)]) S := fun h S => by
    have q := long_in (decide_eq_true h).symm
    simp only [m__law_token, x_bnd, k_ok, k_exc, k_stuck, x_giv, x_fail, selM_t, selM_f, selS_t, selS_f, sK_ok, sK_exc, sK_stuck, x_seq, seq_nx, seq_bk, seq_ct, seq_rt, seq_exc, seq_stuck, x_ret, x_retN, x_exp, x_set, x_nil, x_brk, x_cnt, x_tgt, tK_ok, tK_stuck, x_asgK, x_asg, ifK_t, ifK_f, x_if, x_fgK, fK_bk, fK_rt, fK_exc, for_src, x_fpK, fpK_nx, fpK_ct, srcK_nil, srcK_rng, x_for, x_def, defK_rt, defK_nx, defK_exc, slot_some, x_slot, x_c, x_Nil, x_consK, x_cons, x_F, x_m2K, x_m2, x_m1, x_B, x_T, asB_bl, asT_bl, asT_int, asT_non, asT_tup, asT_rol, asT_frz, x_And, x_Or, andK_t, andK_f, orK_t, orK_f, x_Not, x_AndV, x_OrV, x_andVK, x_orVK, x_NotV, x_IfE, ifEK_t, ifEK_f, x_Tup, x_Lst, x_mkF, x_mkT, x_Call, add_ii, sub_ii, neg_i, cmp_ii, eq_ii, eq_bb, eq_ss, ne_ii, ne_ss, is_n, isnot_n, non_n, non_i, non_b, non_s, non_t, non_r, non_o, ix_t, ix_r, ix_f, lst_s, ix_oo, len_oo, srcL_oo, set_oo, setO_l, opt_s, len_t, len_r, len_f, abs_i, int_i, int_b, max_ii, min_ii, gcd_ii, list_f, list_r, list_t, tuple_r, tuple_t, x_It, x_Nm, x_Tp, x_gN, x_gC, x_iE, x_iF, srcL_f, srcL_r, srcT_t, srcS_s, x_Isi, isi_tt, isi_ti, isi_tn, isi_tb, isi_ts, isi_bt, isi_bi, isi_bn, isi_bb, isi_bs, isi_st, isi_si, isi_sn, isi_sb, isi_ss, isi_it, isi_ii, isi_in, isi_ib, isi_is, at0, at1, at2, at3, ix0, ix1, ix2, ix3, whC_t, whC_f, whK_nx, whK_ct, whK_bk, whK_rt, List.map_cons, List.map_nil, List.length_cons, List.length_nil, List.replicate_succ, List.replicate_zero, List.set_cons_zero, List.set_cons_succ, List.cons_append, List.nil_append, List.append_nil, Nat.reduceAdd, Nat.reduceSub, Nat.sub_zero, Nat.sub_self, Nat.zero_add, List.getElem?_cons_zero, List.getElem?_cons_succ, decide_true, decide_false, Bool.not_true, Bool.not_false, List.isEmpty_cons, List.isEmpty_nil, Nat.reduceLeDiff, Nat.reduceSucc, x_Me, x_meK, x_Me0, ty_ss, ty_lo, ty_ll, ty_dd, ty_lr, ap_o, up_l, pop_o, pop_l, asT_o, tru_l, tru_d, ext_o, lsts_r, lsts_t, x_chain, in_ssF, in_ssT, in_t, in_r, in_o, inK_sF, inK_sT, flat_s, flat_i, List.all_cons, List.all_nil, Bool.and_true, Bool.true_and, rev_t, rev_r, sum_r, maxL_r, minL_r, any_r, all_r, inc_ii, x_aug, x_lc, x_lc2, lcEnd_f, lcEnd_t, x_yes, x_Sl, x_oN, x_oS, asI_i, sl_t, sl_r, cut1, js_nil, js_cons, add_or, x_raise, x_raiseI, rai_2, x_try, try_nx, try_rt, try_e0, try_e2, hot_bl, x_isx, isx_1, x_fld, fld_1, L_app, in_L, x_small, x_need, lit_dg, lit_lA, lit_q, lit_br, lit_le, lit_ne, lit_ge, ix, d1, d3, q34, q91, e2, sl, q]
  have law1 : ¬ (t2 = [60, 61] ∨ t2 = [60, 62] ∨ t2 = [62, 61]) → c ∈ sy → ∀ S, m__law_token [.str (L l), .int (i : Int)] S = .ok (.tup [.int ((i + 1 : Nat) : Int), .str "symbol", .str (L [c])]) S := fun h h1 S => by
    have q := long_in (decide_eq_false h).symm
    have q1 : decide (c ∈ sy) = true := decide_eq_true h1
    simp only [m__law_token, x_bnd, k_ok, k_exc, k_stuck, x_giv, x_fail, selM_t, selM_f, selS_t, selS_f, sK_ok, sK_exc, sK_stuck, x_seq, seq_nx, seq_bk, seq_ct, seq_rt, seq_exc, seq_stuck, x_ret, x_retN, x_exp, x_set, x_nil, x_brk, x_cnt, x_tgt, tK_ok, tK_stuck, x_asgK, x_asg, ifK_t, ifK_f, x_if, x_fgK, fK_bk, fK_rt, fK_exc, for_src, x_fpK, fpK_nx, fpK_ct, srcK_nil, srcK_rng, x_for, x_def, defK_rt, defK_nx, defK_exc, slot_some, x_slot, x_c, x_Nil, x_consK, x_cons, x_F, x_m2K, x_m2, x_m1, x_B, x_T, asB_bl, asT_bl, asT_int, asT_non, asT_tup, asT_rol, asT_frz, x_And, x_Or, andK_t, andK_f, orK_t, orK_f, x_Not, x_AndV, x_OrV, x_andVK, x_orVK, x_NotV, x_IfE, ifEK_t, ifEK_f, x_Tup, x_Lst, x_mkF, x_mkT, x_Call, add_ii, sub_ii, neg_i, cmp_ii, eq_ii, eq_bb, eq_ss, ne_ii, ne_ss, is_n, isnot_n, non_n, non_i, non_b, non_s, non_t, non_r, non_o, ix_t, ix_r, ix_f, lst_s, ix_oo, len_oo, srcL_oo, set_oo, setO_l, opt_s, len_t, len_r, len_f, abs_i, int_i, int_b, max_ii, min_ii, gcd_ii, list_f, list_r, list_t, tuple_r, tuple_t, x_It, x_Nm, x_Tp, x_gN, x_gC, x_iE, x_iF, srcL_f, srcL_r, srcT_t, srcS_s, x_Isi, isi_tt, isi_ti, isi_tn, isi_tb, isi_ts, isi_bt, isi_bi, isi_bn, isi_bb, isi_bs, isi_st, isi_si, isi_sn, isi_sb, isi_ss, isi_it, isi_ii, isi_in, isi_ib, isi_is, at0, at1, at2, at3, ix0, ix1, ix2, ix3, whC_t, whC_f, whK_nx, whK_ct, whK_bk, whK_rt, List.map_cons, List.map_nil, List.length_cons, List.length_nil, List.replicate_succ, List.replicate_zero, List.set_cons_zero, List.set_cons_succ, List.cons_append, List.nil_append, List.append_nil, Nat.reduceAdd, Nat.reduceSub, Nat.sub_zero, Nat.sub_self, Nat.zero_add, List.getElem?_cons_zero, List.getElem?_cons_succ, decide_true, decide_false, Bool.not_true, Bool.not_false, List.isEmpty_cons, List.isEmpty_nil, Nat.reduceLeDiff, Nat.reduceSucc, x_Me, x_meK, x_Me0, ty_ss, ty_lo, ty_ll, ty_dd, ty_lr, ap_o, up_l, pop_o, pop_l, asT_o, tru_l, tru_d, ext_o, lsts_r, lsts_t, x_chain, in_ssF, in_ssT, in_t, in_r, in_o, inK_sF, inK_sT, flat_s, flat_i, List.all_cons, List.all_nil, Bool.and_true, Bool.true_and, rev_t, rev_r, sum_r, maxL_r, minL_r, any_r, all_r, inc_ii, x_aug, x_lc, x_lc2, lcEnd_f, lcEnd_t, x_yes, x_Sl, x_oN, x_oS, asI_i, sl_t, sl_r, cut1, js_nil, js_cons, add_or, x_raise, x_raiseI, rai_2, x_try, try_nx, try_rt, try_e0, try_e2, hot_bl, x_isx, isx_1, x_fld, fld_1, L_app, in_L, x_small, x_need, lit_dg, lit_lA, lit_q, lit_br, lit_le, lit_ne, lit_ge, lit_sy, ix, d1, d3, q34, q91, e2, sl, q, q1, e1]
  have law0 : ¬ (t2 = [60, 61] ∨ t2 = [60, 62] ∨ t2 = [62, 61]) → c ∉ sy → ∀ S, m__law_token [.str (L l), .int (i : Int)] S = .ok (.str "character") S := fun h h1 S => by
    have q := long_in (decide_eq_false h).symm
    have q1 : decide (c ∈ sy) = false := decide_eq_false h1
    simp only [m__law_token, x_bnd, k_ok, k_exc, k_stuck, x_giv, x_fail, selM_t, selM_f, selS_t, selS_f, sK_ok, sK_exc, sK_stuck, x_seq, seq_nx, seq_bk, seq_ct, seq_rt, seq_exc, seq_stuck, x_ret, x_retN, x_exp, x_set, x_nil, x_brk, x_cnt, x_tgt, tK_ok, tK_stuck, x_asgK, x_asg, ifK_t, ifK_f, x_if, x_fgK, fK_bk, fK_rt, fK_exc, for_src, x_fpK, fpK_nx, fpK_ct, srcK_nil, srcK_rng, x_for, x_def, defK_rt, defK_nx, defK_exc, slot_some, x_slot, x_c, x_Nil, x_consK, x_cons, x_F, x_m2K, x_m2, x_m1, x_B, x_T, asB_bl, asT_bl, asT_int, asT_non, asT_tup, asT_rol, asT_frz, x_And, x_Or, andK_t, andK_f, orK_t, orK_f, x_Not, x_AndV, x_OrV, x_andVK, x_orVK, x_NotV, x_IfE, ifEK_t, ifEK_f, x_Tup, x_Lst, x_mkF, x_mkT, x_Call, add_ii, sub_ii, neg_i, cmp_ii, eq_ii, eq_bb, eq_ss, ne_ii, ne_ss, is_n, isnot_n, non_n, non_i, non_b, non_s, non_t, non_r, non_o, ix_t, ix_r, ix_f, lst_s, ix_oo, len_oo, srcL_oo, set_oo, setO_l, opt_s, len_t, len_r, len_f, abs_i, int_i, int_b, max_ii, min_ii, gcd_ii, list_f, list_r, list_t, tuple_r, tuple_t, x_It, x_Nm, x_Tp, x_gN, x_gC, x_iE, x_iF, srcL_f, srcL_r, srcT_t, srcS_s, x_Isi, isi_tt, isi_ti, isi_tn, isi_tb, isi_ts, isi_bt, isi_bi, isi_bn, isi_bb, isi_bs, isi_st, isi_si, isi_sn, isi_sb, isi_ss, isi_it, isi_ii, isi_in, isi_ib, isi_is, at0, at1, at2, at3, ix0, ix1, ix2, ix3, whC_t, whC_f, whK_nx, whK_ct, whK_bk, whK_rt, List.map_cons, List.map_nil, List.length_cons, List.length_nil, List.replicate_succ, List.replicate_zero, List.set_cons_zero, List.set_cons_succ, List.cons_append, List.nil_append, List.append_nil, Nat.reduceAdd, Nat.reduceSub, Nat.sub_zero, Nat.sub_self, Nat.zero_add, List.getElem?_cons_zero, List.getElem?_cons_succ, decide_true, decide_false, Bool.not_true, Bool.not_false, List.isEmpty_cons, List.isEmpty_nil, Nat.reduceLeDiff, Nat.reduceSucc, x_Me, x_meK, x_Me0, ty_ss, ty_lo, ty_ll, ty_dd, ty_lr, ap_o, up_l, pop_o, pop_l, asT_o, tru_l, tru_d, ext_o, lsts_r, lsts_t, x_chain, in_ssF, in_ssT, in_t, in_r, in_o, inK_sF, inK_sT, flat_s, flat_i, List.all_cons, List.all_nil, Bool.and_true, Bool.true_and, rev_t, rev_r, sum_r, maxL_r, minL_r, any_r, all_r, inc_ii, x_aug, x_lc, x_lc2, lcEnd_f, lcEnd_t, x_yes, x_Sl, x_oN, x_oS, asI_i, sl_t, sl_r, cut1, js_nil, js_cons, add_or, x_raise, x_raiseI, rai_2, x_try, try_nx, try_rt, try_e0, try_e2, hot_bl, x_isx, isx_1, x_fld, fld_1, L_app, in_L, x_small, x_need, lit_dg, lit_lA, lit_q, lit_br, lit_le, lit_ne, lit_ge, lit_sy, ix, d1, d3, q34, q91, e2, sl, q, q1]
  have prog : ∀ S, m__symbol_at [.str (L l), .int (i : Int)] S = m__symbol_at [.str (L l), .int (i : Int)] S := fun _ => rfl
  have sp := fun S => sym_prog hs hi hl S
  have t1 : ∀ x, (c :: r).take 1 = [x] ↔ c = x := fun x => by simp
  have hno : (∀ w ∈ symW, (c :: r).take w.length ≠ w) ↔ ¬ (t2 = [60, 61] ∨ t2 = [60, 62] ∨ t2 = [62, 61]) ∧ c ∉ sy := by
    rw [← ht2]
    simp only [symW, sy, List.mem_cons, List.not_mem_nil, or_false, forall_eq_or_imp, forall_eq, List.length_cons, List.length_nil, Nat.zero_add, Nat.reduceAdd, ne_eq, not_or, List.take_succ_cons, List.take_zero, List.cons.injEq, and_true, and_assoc]
  by_cases hT : t2 = [60, 61] ∨ t2 = [60, 62] ∨ t2 = [62, 61]
  · have tl : t2.length = 2 := by rcases hT with rfl | rfl | rfl <;> rfl
    have hm : i + 2 ≤ l.length := by rw [← ht2, List.length_take] at tl; omega
    have h1 : ∀ S, m__symbol_at [.str (L l), .int (i : Int)] S = .ok (.tup [.str "symbol", .str (L t2), .int ((i + 2 : Nat) : Int)]) S := fun S => by
      rcases sp S with ⟨w, hw, a1, a2, a3⟩ | ⟨a1, _⟩
      · have hw2 : w = t2 := by
          by_cases hwt : w = t2
          · exact hwt
          · exfalso
            by_cases hwl : w.length = 2
            · rw [hwl, ht2] at a1
              exact hwt a1.symm
            · have hwn : w ≠ [60, 61] ∧ w ≠ [60, 62] ∧ w ≠ [62, 61] := ⟨fun z => hwl (by rw [z]; rfl), fun z => hwl (by rw [z]; rfl), fun z => hwl (by rw [z]; rfl)⟩
              have tk : ∀ v, v = [60, 61] ∨ v = [60, 62] ∨ v = [62, 61] → v ∈ symW.takeWhile (fun v => v != w) := fun v hv => by
                unfold symW
                rw [List.takeWhile_cons_of_pos (by simpa using Ne.symm hwn.1), List.takeWhile_cons_of_pos (by simpa using Ne.symm hwn.2.1), List.takeWhile_cons_of_pos (by simpa using Ne.symm hwn.2.2)]
                rcases hv with rfl | rfl | rfl <;> simp
              have := a2 t2 (tk t2 hT)
              rw [tl] at this
              exact this ht2
        rw [a3, hw2, tl]
      · exact absurd hT ((hno.mp a1).1)
    refine .inl ⟨"symbol", .str (L t2), 2, by omega, hm, trivial, fun S => ?_, law2 hT⟩
    simp only [m__token_at, x_bnd, k_ok, k_exc, k_stuck, x_giv, x_fail, selM_t, selM_f, selS_t, selS_f, sK_ok, sK_exc, sK_stuck, x_seq, seq_nx, seq_bk, seq_ct, seq_rt, seq_exc, seq_stuck, x_ret, x_retN, x_exp, x_set, x_nil, x_brk, x_cnt, x_tgt, tK_ok, tK_stuck, x_asgK, x_asg, ifK_t, ifK_f, x_if, x_fgK, fK_bk, fK_rt, fK_exc, for_src, x_fpK, fpK_nx, fpK_ct, srcK_nil, srcK_rng, x_for, x_def, defK_rt, defK_nx, defK_exc, slot_some, x_slot, x_c, x_Nil, x_consK, x_cons, x_F, x_m2K, x_m2, x_m1, x_B, x_T, asB_bl, asT_bl, asT_int, asT_non, asT_tup, asT_rol, asT_frz, x_And, x_Or, andK_t, andK_f, orK_t, orK_f, x_Not, x_AndV, x_OrV, x_andVK, x_orVK, x_NotV, x_IfE, ifEK_t, ifEK_f, x_Tup, x_Lst, x_mkF, x_mkT, x_Call, add_ii, sub_ii, neg_i, cmp_ii, eq_ii, eq_bb, eq_ss, ne_ii, ne_ss, is_n, isnot_n, non_n, non_i, non_b, non_s, non_t, non_r, non_o, ix_t, ix_r, ix_f, lst_s, ix_oo, len_oo, srcL_oo, set_oo, setO_l, opt_s, len_t, len_r, len_f, abs_i, int_i, int_b, max_ii, min_ii, gcd_ii, list_f, list_r, list_t, tuple_r, tuple_t, x_It, x_Nm, x_Tp, x_gN, x_gC, x_iE, x_iF, srcL_f, srcL_r, srcT_t, srcS_s, x_Isi, isi_tt, isi_ti, isi_tn, isi_tb, isi_ts, isi_bt, isi_bi, isi_bn, isi_bb, isi_bs, isi_st, isi_si, isi_sn, isi_sb, isi_ss, isi_it, isi_ii, isi_in, isi_ib, isi_is, at0, at1, at2, at3, ix0, ix1, ix2, ix3, whC_t, whC_f, whK_nx, whK_ct, whK_bk, whK_rt, List.map_cons, List.map_nil, List.length_cons, List.length_nil, List.replicate_succ, List.replicate_zero, List.set_cons_zero, List.set_cons_succ, List.cons_append, List.nil_append, List.append_nil, Nat.reduceAdd, Nat.reduceSub, Nat.sub_zero, Nat.sub_self, Nat.zero_add, List.getElem?_cons_zero, List.getElem?_cons_succ, decide_true, decide_false, Bool.not_true, Bool.not_false, List.isEmpty_cons, List.isEmpty_nil, Nat.reduceLeDiff, Nat.reduceSucc, x_Me, x_meK, x_Me0, ty_ss, ty_lo, ty_ll, ty_dd, ty_lr, ap_o, up_l, pop_o, pop_l, asT_o, tru_l, tru_d, ext_o, lsts_r, lsts_t, x_chain, in_ssF, in_ssT, in_t, in_r, in_o, inK_sF, inK_sT, flat_s, flat_i, List.all_cons, List.all_nil, Bool.and_true, Bool.true_and, rev_t, rev_r, sum_r, maxL_r, minL_r, any_r, all_r, inc_ii, x_aug, x_lc, x_lc2, lcEnd_f, lcEnd_t, x_yes, x_Sl, x_oN, x_oS, asI_i, sl_t, sl_r, cut1, js_nil, js_cons, add_or, x_raise, x_raiseI, rai_2, x_try, try_nx, try_rt, try_e0, try_e2, hot_bl, x_isx, isx_1, x_fld, fld_1, L_app, in_L, x_small, x_need, lit_dg, lit_pA, lit_q, lit_br, ix, d1, d2, q34, q91, ↓h1]
  · by_cases hS : c ∈ sy
    · have h1 : ∀ S, m__symbol_at [.str (L l), .int (i : Int)] S = .ok (.tup [.str "symbol", .str (L [c]), .int ((i + 1 : Nat) : Int)]) S := fun S => by
        rcases sp S with ⟨w, hw, a1, a2, a3⟩ | ⟨a1, _⟩
        · have hw1 : w = [c] := by
            simp only [symW, List.mem_cons, List.not_mem_nil, or_false] at hw
            rcases hw with h | h | h | h | h | h | h | h | h | h | h | h | h
            · subst h; exact absurd (.inl (ht2.symm.trans a1)) hT
            · subst h; exact absurd (.inr (.inl (ht2.symm.trans a1))) hT
            · subst h; exact absurd (.inr (.inr (ht2.symm.trans a1))) hT
            all_goals (subst h; rw [(t1 _).mp a1])
          rw [a3, hw1]
          rfl
        · exact absurd hS ((hno.mp a1).2)
      refine .inl ⟨"symbol", .str (L [c]), 1, by omega, by omega, trivial, fun S => ?_, law1 hT hS⟩
      simp only [m__token_at, x_bnd, k_ok, k_exc, k_stuck, x_giv, x_fail, selM_t, selM_f, selS_t, selS_f, sK_ok, sK_exc, sK_stuck, x_seq, seq_nx, seq_bk, seq_ct, seq_rt, seq_exc, seq_stuck, x_ret, x_retN, x_exp, x_set, x_nil, x_brk, x_cnt, x_tgt, tK_ok, tK_stuck, x_asgK, x_asg, ifK_t, ifK_f, x_if, x_fgK, fK_bk, fK_rt, fK_exc, for_src, x_fpK, fpK_nx, fpK_ct, srcK_nil, srcK_rng, x_for, x_def, defK_rt, defK_nx, defK_exc, slot_some, x_slot, x_c, x_Nil, x_consK, x_cons, x_F, x_m2K, x_m2, x_m1, x_B, x_T, asB_bl, asT_bl, asT_int, asT_non, asT_tup, asT_rol, asT_frz, x_And, x_Or, andK_t, andK_f, orK_t, orK_f, x_Not, x_AndV, x_OrV, x_andVK, x_orVK, x_NotV, x_IfE, ifEK_t, ifEK_f, x_Tup, x_Lst, x_mkF, x_mkT, x_Call, add_ii, sub_ii, neg_i, cmp_ii, eq_ii, eq_bb, eq_ss, ne_ii, ne_ss, is_n, isnot_n, non_n, non_i, non_b, non_s, non_t, non_r, non_o, ix_t, ix_r, ix_f, lst_s, ix_oo, len_oo, srcL_oo, set_oo, setO_l, opt_s, len_t, len_r, len_f, abs_i, int_i, int_b, max_ii, min_ii, gcd_ii, list_f, list_r, list_t, tuple_r, tuple_t, x_It, x_Nm, x_Tp, x_gN, x_gC, x_iE, x_iF, srcL_f, srcL_r, srcT_t, srcS_s, x_Isi, isi_tt, isi_ti, isi_tn, isi_tb, isi_ts, isi_bt, isi_bi, isi_bn, isi_bb, isi_bs, isi_st, isi_si, isi_sn, isi_sb, isi_ss, isi_it, isi_ii, isi_in, isi_ib, isi_is, at0, at1, at2, at3, ix0, ix1, ix2, ix3, whC_t, whC_f, whK_nx, whK_ct, whK_bk, whK_rt, List.map_cons, List.map_nil, List.length_cons, List.length_nil, List.replicate_succ, List.replicate_zero, List.set_cons_zero, List.set_cons_succ, List.cons_append, List.nil_append, List.append_nil, Nat.reduceAdd, Nat.reduceSub, Nat.sub_zero, Nat.sub_self, Nat.zero_add, List.getElem?_cons_zero, List.getElem?_cons_succ, decide_true, decide_false, Bool.not_true, Bool.not_false, List.isEmpty_cons, List.isEmpty_nil, Nat.reduceLeDiff, Nat.reduceSucc, x_Me, x_meK, x_Me0, ty_ss, ty_lo, ty_ll, ty_dd, ty_lr, ap_o, up_l, pop_o, pop_l, asT_o, tru_l, tru_d, ext_o, lsts_r, lsts_t, x_chain, in_ssF, in_ssT, in_t, in_r, in_o, inK_sF, inK_sT, flat_s, flat_i, List.all_cons, List.all_nil, Bool.and_true, Bool.true_and, rev_t, rev_r, sum_r, maxL_r, minL_r, any_r, all_r, inc_ii, x_aug, x_lc, x_lc2, lcEnd_f, lcEnd_t, x_yes, x_Sl, x_oN, x_oS, asI_i, sl_t, sl_r, cut1, js_nil, js_cons, add_or, x_raise, x_raiseI, rai_2, x_try, try_nx, try_rt, try_e0, try_e2, hot_bl, x_isx, isx_1, x_fld, fld_1, L_app, in_L, x_small, x_need, lit_dg, lit_pA, lit_q, lit_br, ix, d1, d2, q34, q91, ↓h1]
    · have h1 : ∀ S, m__symbol_at [.str (L l), .int (i : Int)] S = .exc ⟨"FormulaError", [("reason", .str "character"), ("place", .int (i : Int))]⟩ S := fun S => by
        rcases sp S with ⟨w, hw, a1, _, _⟩ | ⟨_, a3⟩
        · exact absurd a1 (hno.mpr ⟨hT, hS⟩ w hw)
        · exact a3
      refine .inr ⟨"character", fun S => ?_, law0 hT hS⟩
      simp only [m__token_at, x_bnd, k_ok, k_exc, k_stuck, x_giv, x_fail, selM_t, selM_f, selS_t, selS_f, sK_ok, sK_exc, sK_stuck, x_seq, seq_nx, seq_bk, seq_ct, seq_rt, seq_exc, seq_stuck, x_ret, x_retN, x_exp, x_set, x_nil, x_brk, x_cnt, x_tgt, tK_ok, tK_stuck, x_asgK, x_asg, ifK_t, ifK_f, x_if, x_fgK, fK_bk, fK_rt, fK_exc, for_src, x_fpK, fpK_nx, fpK_ct, srcK_nil, srcK_rng, x_for, x_def, defK_rt, defK_nx, defK_exc, slot_some, x_slot, x_c, x_Nil, x_consK, x_cons, x_F, x_m2K, x_m2, x_m1, x_B, x_T, asB_bl, asT_bl, asT_int, asT_non, asT_tup, asT_rol, asT_frz, x_And, x_Or, andK_t, andK_f, orK_t, orK_f, x_Not, x_AndV, x_OrV, x_andVK, x_orVK, x_NotV, x_IfE, ifEK_t, ifEK_f, x_Tup, x_Lst, x_mkF, x_mkT, x_Call, add_ii, sub_ii, neg_i, cmp_ii, eq_ii, eq_bb, eq_ss, ne_ii, ne_ss, is_n, isnot_n, non_n, non_i, non_b, non_s, non_t, non_r, non_o, ix_t, ix_r, ix_f, lst_s, ix_oo, len_oo, srcL_oo, set_oo, setO_l, opt_s, len_t, len_r, len_f, abs_i, int_i, int_b, max_ii, min_ii, gcd_ii, list_f, list_r, list_t, tuple_r, tuple_t, x_It, x_Nm, x_Tp, x_gN, x_gC, x_iE, x_iF, srcL_f, srcL_r, srcT_t, srcS_s, x_Isi, isi_tt, isi_ti, isi_tn, isi_tb, isi_ts, isi_bt, isi_bi, isi_bn, isi_bb, isi_bs, isi_st, isi_si, isi_sn, isi_sb, isi_ss, isi_it, isi_ii, isi_in, isi_ib, isi_is, at0, at1, at2, at3, ix0, ix1, ix2, ix3, whC_t, whC_f, whK_nx, whK_ct, whK_bk, whK_rt, List.map_cons, List.map_nil, List.length_cons, List.length_nil, List.replicate_succ, List.replicate_zero, List.set_cons_zero, List.set_cons_succ, List.cons_append, List.nil_append, List.append_nil, Nat.reduceAdd, Nat.reduceSub, Nat.sub_zero, Nat.sub_self, Nat.zero_add, List.getElem?_cons_zero, List.getElem?_cons_succ, decide_true, decide_false, Bool.not_true, Bool.not_false, List.isEmpty_cons, List.isEmpty_nil, Nat.reduceLeDiff, Nat.reduceSucc, x_Me, x_meK, x_Me0, ty_ss, ty_lo, ty_ll, ty_dd, ty_lr, ap_o, up_l, pop_o, pop_l, asT_o, tru_l, tru_d, ext_o, lsts_r, lsts_t, x_chain, in_ssF, in_ssT, in_t, in_r, in_o, inK_sF, inK_sT, flat_s, flat_i, List.all_cons, List.all_nil, Bool.and_true, Bool.true_and, rev_t, rev_r, sum_r, maxL_r, minL_r, any_r, all_r, inc_ii, x_aug, x_lc, x_lc2, lcEnd_f, lcEnd_t, x_yes, x_Sl, x_oN, x_oS, asI_i, sl_t, sl_r, cut1, js_nil, js_cons, add_or, x_raise, x_raiseI, rai_2, x_try, try_nx, try_rt, try_e0, try_e2, hot_bl, x_isx, isx_1, x_fld, fld_1, L_app, in_L, x_small, x_need, lit_dg, lit_pA, lit_q, lit_br, ix, d1, d2, q34, q91, ↓h1]
end K09

set_option Elab.async false
set_option linter.all false
set_option maxHeartbeats 4000000
set_option maxRecDepth 100000
set_option exponentiation.threshold 10000
namespace K09
open PySem PySem.Spec PyProof.Rows L2 Py
abbrev spT : MT := (mB (m2 (dCmp fun i j => decide (i < j)) (mSlot 2) (mF gLen (mCons (mSlot 0) mNil))))
abbrev FE (r : Str) (j : Nat) : Xc := ⟨"FormulaError", [("reason", .str r), ("place", .int (j : Int))]⟩
theorem idle {l : List Nat} (hl : l.length ≤ 10000) (S : Store) (x : D) : ∀ (ds : List D) (o3 o4 : Option D), ∃ e3, forP (gNm 3) L__law_split_1 ds [some (.str (L l)), some x, some (.int ((l.length : Nat) : Int)), o3, o4] S = .nx [some (.str (L l)), some x, some (.int ((l.length : Nat) : Int)), e3, o4] S
  | [], o3, o4 => ⟨o3, fp_nil⟩
  | d :: ds, o3, o4 => by
    have ln := len_L (l := l) (S := S) (by omega)
    have z : decide (((l.length : Nat) : Int) < ((l.length : Nat) : Int)) = false := decide_eq_false (by omega)
    have e1 : L__law_split_1 ([some (.str (L l)), some x, some (.int ((l.length : Nat) : Int)), o3, o4].set 3 (some d)) S = .nx [some (.str (L l)), some x, some (.int ((l.length : Nat) : Int)), some d, o4] S := by
      simp only [L__law_split_1, x_bnd, k_ok, k_exc, k_stuck, x_giv, x_fail, selM_t, selM_f, selS_t, selS_f, sK_ok, sK_exc, sK_stuck, x_seq, seq_nx, seq_bk, seq_ct, seq_rt, seq_exc, seq_stuck, x_ret, x_retN, x_exp, x_set, x_nil, x_brk, x_cnt, x_tgt, tK_ok, tK_stuck, x_asgK, x_asg, ifK_t, ifK_f, x_if, x_fgK, fK_bk, fK_rt, fK_exc, for_src, x_fpK, fpK_nx, fpK_ct, srcK_nil, srcK_rng, x_for, x_def, defK_rt, defK_nx, defK_exc, slot_some, x_slot, x_c, x_Nil, x_consK, x_cons, x_F, x_m2K, x_m2, x_m1, x_B, x_T, asB_bl, asT_bl, asT_int, asT_non, asT_tup, asT_rol, asT_frz, x_And, x_Or, andK_t, andK_f, orK_t, orK_f, x_Not, x_AndV, x_OrV, x_andVK, x_orVK, x_NotV, x_IfE, ifEK_t, ifEK_f, x_Tup, x_Lst, x_mkF, x_mkT, x_Call, add_ii, sub_ii, neg_i, cmp_ii, eq_ii, eq_bb, eq_ss, ne_ii, ne_ss, is_n, isnot_n, non_n, non_i, non_b, non_s, non_t, non_r, non_o, ix_t, ix_r, ix_f, lst_s, ix_oo, len_oo, srcL_oo, set_oo, setO_l, opt_s, len_t, len_r, len_f, abs_i, int_i, int_b, max_ii, min_ii, gcd_ii, list_f, list_r, list_t, tuple_r, tuple_t, x_It, x_Nm, x_Tp, x_gN, x_gC, x_iE, x_iF, srcL_f, srcL_r, srcT_t, srcS_s, x_Isi, isi_tt, isi_ti, isi_tn, isi_tb, isi_ts, isi_bt, isi_bi, isi_bn, isi_bb, isi_bs, isi_st, isi_si, isi_sn, isi_sb, isi_ss, isi_it, isi_ii, isi_in, isi_ib, isi_is, at0, at1, at2, at3, ix0, ix1, ix2, ix3, whC_t, whC_f, whK_nx, whK_ct, whK_bk, whK_rt, List.map_cons, List.map_nil, List.length_cons, List.length_nil, List.replicate_succ, List.replicate_zero, List.set_cons_zero, List.set_cons_succ, List.cons_append, List.nil_append, List.append_nil, Nat.reduceAdd, Nat.reduceSub, Nat.sub_zero, Nat.sub_self, Nat.zero_add, List.getElem?_cons_zero, List.getElem?_cons_succ, decide_true, decide_false, Bool.not_true, Bool.not_false, List.isEmpty_cons, List.isEmpty_nil, Nat.reduceLeDiff, Nat.reduceSucc, x_Me, x_meK, x_Me0, ty_ss, ty_lo, ty_ll, ty_dd, ty_lr, ap_o, up_l, pop_o, pop_l, asT_o, tru_l, tru_d, ext_o, lsts_r, lsts_t, x_chain, in_ssF, in_ssT, in_t, in_r, in_o, inK_sF, inK_sT, flat_s, flat_i, List.all_cons, List.all_nil, Bool.and_true, Bool.true_and, rev_t, rev_r, sum_r, maxL_r, minL_r, any_r, all_r, inc_ii, x_aug, x_lc, x_lc2, lcEnd_f, lcEnd_t, x_yes, x_Sl, x_oN, x_oS, asI_i, sl_t, sl_r, cut1, js_nil, js_cons, add_or, x_raise, x_raiseI, rai_2, x_try, try_nx, try_rt, try_e0, try_e2, hot_bl, x_isx, isx_1, x_fld, fld_1, L_app, in_L, x_small, ln, z]
    rw [fp_cons, x_Nm, tK_ok, x_fpK, e1, fpK_nx]
    exact idle hl S x ds (some d) o4
theorem asg_exc {x : Xc} {g : MG} {env : Py.Env} {S : Store} {k : D → Store → SR} : sK env k (.exc x S) = .exc x env S := rfl
/-- both loops over the text from place i on -/
theorem split_loops {l : List Nat} (hl : l.length ≤ 10000) : ∀ (f i : Nat) (acc : List D), l.length - i ≤ f → i ≤ l.length → acc.length ≤ i → (∀ d ∈ acc, plain 4 d) →
    (∃ ts : List D, ts.length ≤ l.length ∧ (∀ d ∈ ts, plain 4 d) ∧
      (∀ (S : Store) (n : Nat) (o3 o4 o5 : Option D), l.length - i < n → ∃ e3 e4 e5, whileN spT L_split_text_1 n [some (.str (L l)), some (.obj S.length), some (.int (i : Int)), o3, o4, o5] (S ++ [.lst acc]) = .nx [some (.str (L l)), some (.obj S.length), some (.int ((l.length : Nat) : Int)), e3, e4, e5] (S ++ [.lst ts])) ∧
      (∀ (S : Store) (ds : List D) (o3 o4 : Option D), l.length - i ≤ ds.length → ∃ e3 e4, forP (gNm 3) L__law_split_1 ds [some (.str (L l)), some (.obj S.length), some (.int (i : Int)), o3, o4] (S ++ [.lst acc]) = .nx [some (.str (L l)), some (.obj S.length), some (.int ((l.length : Nat) : Int)), e3, e4] (S ++ [.lst ts]))) ∨
    (∃ (ts : List D) (j : Nat) (r : Str),
      (∀ (S : Store) (n : Nat) (o3 o4 o5 : Option D), l.length - i < n → ∃ env', whileN spT L_split_text_1 n [some (.str (L l)), some (.obj S.length), some (.int (i : Int)), o3, o4, o5] (S ++ [.lst acc]) = .exc (FE r j) env' (S ++ [.lst ts])) ∧
      (∀ (S : Store) (ds : List D) (o3 o4 : Option D), l.length - i ≤ ds.length → forP (gNm 3) L__law_split_1 ds [some (.str (L l)), some (.obj S.length), some (.int (i : Int)), o3, o4] (S ++ [.lst acc]) = .rt (.rol [.obj S.length, .tup [.int (j : Int), .str r]]) (S ++ [.lst ts]))) := by
  intro f
  induction f with
  | zero =>
    intro i acc hf hi ha hp
    have ei : i = l.length := by omega
    subst ei
    refine .inl ⟨acc, ha, hp, fun S n o3 o4 o5 hn => ?_, fun S ds o3 o4 _ => ?_⟩
    · obtain ⟨n, rfl⟩ : ∃ m, n = m + 1 := ⟨n - 1, by omega⟩
      have ln := fun S => len_L (l := l) (S := S) (by omega)
      have z : decide (((l.length : Nat) : Int) < ((l.length : Nat) : Int)) = false := decide_eq_false (by omega)
      exact ⟨o3, o4, o5, by simp only [x_whN, spT, x_bnd, k_ok, k_exc, k_stuck, x_giv, x_fail, selM_t, selM_f, selS_t, selS_f, sK_ok, sK_exc, sK_stuck, x_seq, seq_nx, seq_bk, seq_ct, seq_rt, seq_exc, seq_stuck, x_ret, x_retN, x_exp, x_set, x_nil, x_brk, x_cnt, x_tgt, tK_ok, tK_stuck, x_asgK, x_asg, ifK_t, ifK_f, x_if, x_fgK, fK_bk, fK_rt, fK_exc, for_src, x_fpK, fpK_nx, fpK_ct, srcK_nil, srcK_rng, x_for, x_def, defK_rt, defK_nx, defK_exc, slot_some, x_slot, x_c, x_Nil, x_consK, x_cons, x_F, x_m2K, x_m2, x_m1, x_B, x_T, asB_bl, asT_bl, asT_int, asT_non, asT_tup, asT_rol, asT_frz, x_And, x_Or, andK_t, andK_f, orK_t, orK_f, x_Not, x_AndV, x_OrV, x_andVK, x_orVK, x_NotV, x_IfE, ifEK_t, ifEK_f, x_Tup, x_Lst, x_mkF, x_mkT, x_Call, add_ii, sub_ii, neg_i, cmp_ii, eq_ii, eq_bb, eq_ss, ne_ii, ne_ss, is_n, isnot_n, non_n, non_i, non_b, non_s, non_t, non_r, non_o, ix_t, ix_r, ix_f, lst_s, ix_oo, len_oo, srcL_oo, set_oo, setO_l, opt_s, len_t, len_r, len_f, abs_i, int_i, int_b, max_ii, min_ii, gcd_ii, list_f, list_r, list_t, tuple_r, tuple_t, x_It, x_Nm, x_Tp, x_gN, x_gC, x_iE, x_iF, srcL_f, srcL_r, srcT_t, srcS_s, x_Isi, isi_tt, isi_ti, isi_tn, isi_tb, isi_ts, isi_bt, isi_bi, isi_bn, isi_bb, isi_bs, isi_st, isi_si, isi_sn, isi_sb, isi_ss, isi_it, isi_ii, isi_in, isi_ib, isi_is, at0, at1, at2, at3, ix0, ix1, ix2, ix3, whC_t, whC_f, whK_nx, whK_ct, whK_bk, whK_rt, List.map_cons, List.map_nil, List.length_cons, List.length_nil, List.replicate_succ, List.replicate_zero, List.set_cons_zero, List.set_cons_succ, List.cons_append, List.nil_append, List.append_nil, Nat.reduceAdd, Nat.reduceSub, Nat.sub_zero, Nat.sub_self, Nat.zero_add, List.getElem?_cons_zero, List.getElem?_cons_succ, decide_true, decide_false, Bool.not_true, Bool.not_false, List.isEmpty_cons, List.isEmpty_nil, Nat.reduceLeDiff, Nat.reduceSucc, x_Me, x_meK, x_Me0, ty_ss, ty_lo, ty_ll, ty_dd, ty_lr, ap_o, up_l, pop_o, pop_l, asT_o, tru_l, tru_d, ext_o, lsts_r, lsts_t, x_chain, in_ssF, in_ssT, in_t, in_r, in_o, inK_sF, inK_sT, flat_s, flat_i, List.all_cons, List.all_nil, Bool.and_true, Bool.true_and, rev_t, rev_r, sum_r, maxL_r, minL_r, any_r, all_r, inc_ii, x_aug, x_lc, x_lc2, lcEnd_f, lcEnd_t, x_yes, x_Sl, x_oN, x_oS, asI_i, sl_t, sl_r, cut1, js_nil, js_cons, add_or, x_raise, x_raiseI, rai_2, x_try, try_nx, try_rt, try_e0, try_e2, hot_bl, x_isx, isx_1, x_fld, fld_1, L_app, in_L, x_small, ln, z]⟩
    · obtain ⟨e3, h⟩ := idle hl (S ++ [.lst acc]) (.obj S.length) ds o3 o4
      exact ⟨e3, o4, h⟩
  | succ f ih =>
    intro i acc hf hi ha hp
    by_cases hil : i = l.length
    · exact ih i acc (by omega) hi ha hp
    have lt : i < l.length := by omega
    obtain ⟨c, r, hs⟩ : ∃ c r, l.drop i = c :: r := ⟨_, _, List.drop_eq_getElem_cons lt⟩
    have ln := fun S => len_L (l := l) (S := S) (by omega)
    have z : decide ((i : Int) < ((l.length : Nat) : Int)) = true := decide_eq_true (by omega)
    have ix := fun S => ix_at (S := S) hs hl
    have e1 : (i : Int) + 1 = ((i + 1 : Nat) : Int) := rfl
    by_cases hc : c = 32
    · subst hc
      have q : decide (L [32] = L [32]) = true := decide_eq_true rfl
      have w : ∀ (S : Store) (n : Nat) (o3 o4 o5 : Option D), whileN spT L_split_text_1 (n + 1) [some (.str (L l)), some (.obj S.length), some (.int (i : Int)), o3, o4, o5] (S ++ [.lst acc]) = whileN spT L_split_text_1 n [some (.str (L l)), some (.obj S.length), some (.int ((i + 1 : Nat) : Int)), o3, o4, o5] (S ++ [.lst acc]) := fun S n o3 o4 o5 => by
        simp only [x_whN, L_split_text_1, spT, x_sBnd, inc_ii, x_bnd, k_ok, k_exc, k_stuck, x_giv, x_fail, selM_t, selM_f, selS_t, selS_f, sK_ok, sK_exc, sK_stuck, x_seq, seq_nx, seq_bk, seq_ct, seq_rt, seq_exc, seq_stuck, x_ret, x_retN, x_exp, x_set, x_nil, x_brk, x_cnt, x_tgt, tK_ok, tK_stuck, x_asgK, x_asg, ifK_t, ifK_f, x_if, x_fgK, fK_bk, fK_rt, fK_exc, for_src, x_fpK, fpK_nx, fpK_ct, srcK_nil, srcK_rng, x_for, x_def, defK_rt, defK_nx, defK_exc, slot_some, x_slot, x_c, x_Nil, x_consK, x_cons, x_F, x_m2K, x_m2, x_m1, x_B, x_T, asB_bl, asT_bl, asT_int, asT_non, asT_tup, asT_rol, asT_frz, x_And, x_Or, andK_t, andK_f, orK_t, orK_f, x_Not, x_AndV, x_OrV, x_andVK, x_orVK, x_NotV, x_IfE, ifEK_t, ifEK_f, x_Tup, x_Lst, x_mkF, x_mkT, x_Call, add_ii, sub_ii, neg_i, cmp_ii, eq_ii, eq_bb, eq_ss, ne_ii, ne_ss, is_n, isnot_n, non_n, non_i, non_b, non_s, non_t, non_r, non_o, ix_t, ix_r, ix_f, lst_s, ix_oo, len_oo, srcL_oo, set_oo, setO_l, opt_s, len_t, len_r, len_f, abs_i, int_i, int_b, max_ii, min_ii, gcd_ii, list_f, list_r, list_t, tuple_r, tuple_t, x_It, x_Nm, x_Tp, x_gN, x_gC, x_iE, x_iF, srcL_f, srcL_r, srcT_t, srcS_s, x_Isi, isi_tt, isi_ti, isi_tn, isi_tb, isi_ts, isi_bt, isi_bi, isi_bn, isi_bb, isi_bs, isi_st, isi_si, isi_sn, isi_sb, isi_ss, isi_it, isi_ii, isi_in, isi_ib, isi_is, at0, at1, at2, at3, ix0, ix1, ix2, ix3, whC_t, whC_f, whK_nx, whK_ct, whK_bk, whK_rt, List.map_cons, List.map_nil, List.length_cons, List.length_nil, List.replicate_succ, List.replicate_zero, List.set_cons_zero, List.set_cons_succ, List.cons_append, List.nil_append, List.append_nil, Nat.reduceAdd, Nat.reduceSub, Nat.sub_zero, Nat.sub_self, Nat.zero_add, List.getElem?_cons_zero, List.getElem?_cons_succ, decide_true, decide_false, Bool.not_true, Bool.not_false, List.isEmpty_cons, List.isEmpty_nil, Nat.reduceLeDiff, Nat.reduceSucc, x_Me, x_meK, x_Me0, ty_ss, ty_lo, ty_ll, ty_dd, ty_lr, ap_o, up_l, pop_o, pop_l, asT_o, tru_l, tru_d, ext_o, lsts_r, lsts_t, x_chain, in_ssF, in_ssT, in_t, in_r, in_o, inK_sF, inK_sT, flat_s, flat_i, List.all_cons, List.all_nil, Bool.and_true, Bool.true_and, rev_t, rev_r, sum_r, maxL_r, minL_r, any_r, all_r, inc_ii, x_aug, x_lc, x_lc2, lcEnd_f, lcEnd_t, x_yes, x_Sl, x_oN, x_oS, asI_i, sl_t, sl_r, cut1, js_nil, js_cons, add_or, x_raise, x_raiseI, rai_2, x_try, try_nx, try_rt, try_e0, try_e2, hot_bl, x_isx, isx_1, x_fld, fld_1, L_app, in_L, x_small, ln, z, lit_b, ix, q, e1]
      have fo : ∀ (S : Store) (d : D) (ds : List D) (o3 o4 : Option D), forP (gNm 3) L__law_split_1 (d :: ds) [some (.str (L l)), some (.obj S.length), some (.int (i : Int)), o3, o4] (S ++ [.lst acc]) = forP (gNm 3) L__law_split_1 ds [some (.str (L l)), some (.obj S.length), some (.int ((i + 1 : Nat) : Int)), some d, o4] (S ++ [.lst acc]) := fun S d ds o3 o4 => by
        have e2 : L__law_split_1 ([some (.str (L l)), some (.obj S.length), some (.int (i : Int)), o3, o4].set 3 (some d)) (S ++ [.lst acc]) = .nx [some (.str (L l)), some (.obj S.length), some (.int ((i + 1 : Nat) : Int)), some d, o4] (S ++ [.lst acc]) := by
          simp only [L__law_split_1, x_bnd, k_ok, k_exc, k_stuck, x_giv, x_fail, selM_t, selM_f, selS_t, selS_f, sK_ok, sK_exc, sK_stuck, x_seq, seq_nx, seq_bk, seq_ct, seq_rt, seq_exc, seq_stuck, x_ret, x_retN, x_exp, x_set, x_nil, x_brk, x_cnt, x_tgt, tK_ok, tK_stuck, x_asgK, x_asg, ifK_t, ifK_f, x_if, x_fgK, fK_bk, fK_rt, fK_exc, for_src, x_fpK, fpK_nx, fpK_ct, srcK_nil, srcK_rng, x_for, x_def, defK_rt, defK_nx, defK_exc, slot_some, x_slot, x_c, x_Nil, x_consK, x_cons, x_F, x_m2K, x_m2, x_m1, x_B, x_T, asB_bl, asT_bl, asT_int, asT_non, asT_tup, asT_rol, asT_frz, x_And, x_Or, andK_t, andK_f, orK_t, orK_f, x_Not, x_AndV, x_OrV, x_andVK, x_orVK, x_NotV, x_IfE, ifEK_t, ifEK_f, x_Tup, x_Lst, x_mkF, x_mkT, x_Call, add_ii, sub_ii, neg_i, cmp_ii, eq_ii, eq_bb, eq_ss, ne_ii, ne_ss, is_n, isnot_n, non_n, non_i, non_b, non_s, non_t, non_r, non_o, ix_t, ix_r, ix_f, lst_s, ix_oo, len_oo, srcL_oo, set_oo, setO_l, opt_s, len_t, len_r, len_f, abs_i, int_i, int_b, max_ii, min_ii, gcd_ii, list_f, list_r, list_t, tuple_r, tuple_t, x_It, x_Nm, x_Tp, x_gN, x_gC, x_iE, x_iF, srcL_f, srcL_r, srcT_t, srcS_s, x_Isi, isi_tt, isi_ti, isi_tn, isi_tb, isi_ts, isi_bt, isi_bi, isi_bn, isi_bb, isi_bs, isi_st, isi_si, isi_sn, isi_sb, isi_ss, isi_it, isi_ii, isi_in, isi_ib, isi_is, at0, at1, at2, at3, ix0, ix1, ix2, ix3, whC_t, whC_f, whK_nx, whK_ct, whK_bk, whK_rt, List.map_cons, List.map_nil, List.length_cons, List.length_nil, List.replicate_succ, List.replicate_zero, List.set_cons_zero, List.set_cons_succ, List.cons_append, List.nil_append, List.append_nil, Nat.reduceAdd, Nat.reduceSub, Nat.sub_zero, Nat.sub_self, Nat.zero_add, List.getElem?_cons_zero, List.getElem?_cons_succ, decide_true, decide_false, Bool.not_true, Bool.not_false, List.isEmpty_cons, List.isEmpty_nil, Nat.reduceLeDiff, Nat.reduceSucc, x_Me, x_meK, x_Me0, ty_ss, ty_lo, ty_ll, ty_dd, ty_lr, ap_o, up_l, pop_o, pop_l, asT_o, tru_l, tru_d, ext_o, lsts_r, lsts_t, x_chain, in_ssF, in_ssT, in_t, in_r, in_o, inK_sF, inK_sT, flat_s, flat_i, List.all_cons, List.all_nil, Bool.and_true, Bool.true_and, rev_t, rev_r, sum_r, maxL_r, minL_r, any_r, all_r, inc_ii, x_aug, x_lc, x_lc2, lcEnd_f, lcEnd_t, x_yes, x_Sl, x_oN, x_oS, asI_i, sl_t, sl_r, cut1, js_nil, js_cons, add_or, x_raise, x_raiseI, rai_2, x_try, try_nx, try_rt, try_e0, try_e2, hot_bl, x_isx, isx_1, x_fld, fld_1, L_app, in_L, x_small, ln, z, lit_b, ix, q, e1]
        rw [fp_cons, x_Nm, tK_ok, x_fpK, e2, fpK_nx]
      rcases ih (i + 1) acc (by omega) (by omega) (by omega) hp with ⟨ts, t1, t2, h1, h2⟩ | ⟨ts, j, r, h1, h2⟩
      · refine .inl ⟨ts, t1, t2, fun S n o3 o4 o5 hn => ?_, fun S ds o3 o4 hd => ?_⟩
        · obtain ⟨n, rfl⟩ : ∃ m, n = m + 1 := ⟨n - 1, by omega⟩
          rw [w]
          exact h1 S n o3 o4 o5 (by omega)
        · cases ds with
          | nil => simp at hd; omega
          | cons d ds => rw [fo]; exact h2 S ds _ _ (by simp at hd; omega)
      · refine .inr ⟨ts, j, r, fun S n o3 o4 o5 hn => ?_, fun S ds o3 o4 hd => ?_⟩
        · obtain ⟨n, rfl⟩ : ∃ m, n = m + 1 := ⟨n - 1, by omega⟩
          rw [w]
          exact h1 S n o3 o4 o5 (by omega)
        · cases ds with
          | nil => simp at hd; omega
          | cons d ds => rw [fo]; exact h2 S ds _ _ (by simp at hd; omega)
    · have q : decide (L [c] = L [32]) = false := by rw [one_eq]; exact decide_eq_false hc
      rcases token_agree hs hl with ⟨k, v, m, m0, m1, pv, g1, g2⟩ | ⟨r, g1, g2⟩
      · have hneed : acc.length < sizeLine := Nat.lt_of_lt_of_le (show acc.length < 10001 by omega) (lnle (by omega))
        have w : ∀ (S : Store) (n : Nat) (o3 o4 o5 : Option D), whileN spT L_split_text_1 (n + 1) [some (.str (L l)), some (.obj S.length), some (.int (i : Int)), o3, o4, o5] (S ++ [.lst acc]) = whileN spT L_split_text_1 n [some (.str (L l)), some (.obj S.length), some (.int ((i + m : Nat) : Int)), some (.str k), some v, some (.int ((i + m : Nat) : Int))] (S ++ [.lst (acc ++ [.tup [.int (i : Int), .str k, v]])]) := fun S n o3 o4 o5 => by
          simp only [x_whN, L_split_text_1, spT, x_bnd, k_ok, k_exc, k_stuck, x_giv, x_fail, selM_t, selM_f, selS_t, selS_f, sK_ok, sK_exc, sK_stuck, x_seq, seq_nx, seq_bk, seq_ct, seq_rt, seq_exc, seq_stuck, x_ret, x_retN, x_exp, x_set, x_nil, x_brk, x_cnt, x_tgt, tK_ok, tK_stuck, x_asgK, x_asg, ifK_t, ifK_f, x_if, x_fgK, fK_bk, fK_rt, fK_exc, for_src, x_fpK, fpK_nx, fpK_ct, srcK_nil, srcK_rng, x_for, x_def, defK_rt, defK_nx, defK_exc, slot_some, x_slot, x_c, x_Nil, x_consK, x_cons, x_F, x_m2K, x_m2, x_m1, x_B, x_T, asB_bl, asT_bl, asT_int, asT_non, asT_tup, asT_rol, asT_frz, x_And, x_Or, andK_t, andK_f, orK_t, orK_f, x_Not, x_AndV, x_OrV, x_andVK, x_orVK, x_NotV, x_IfE, ifEK_t, ifEK_f, x_Tup, x_Lst, x_mkF, x_mkT, x_Call, add_ii, sub_ii, neg_i, cmp_ii, eq_ii, eq_bb, eq_ss, ne_ii, ne_ss, is_n, isnot_n, non_n, non_i, non_b, non_s, non_t, non_r, non_o, ix_t, ix_r, ix_f, lst_s, ix_oo, len_oo, srcL_oo, set_oo, setO_l, opt_s, len_t, len_r, len_f, abs_i, int_i, int_b, max_ii, min_ii, gcd_ii, list_f, list_r, list_t, tuple_r, tuple_t, x_It, x_Nm, x_Tp, x_gN, x_gC, x_iE, x_iF, srcL_f, srcL_r, srcT_t, srcS_s, x_Isi, isi_tt, isi_ti, isi_tn, isi_tb, isi_ts, isi_bt, isi_bi, isi_bn, isi_bb, isi_bs, isi_st, isi_si, isi_sn, isi_sb, isi_ss, isi_it, isi_ii, isi_in, isi_ib, isi_is, at0, at1, at2, at3, ix0, ix1, ix2, ix3, whC_t, whC_f, whK_nx, whK_ct, whK_bk, whK_rt, List.map_cons, List.map_nil, List.length_cons, List.length_nil, List.replicate_succ, List.replicate_zero, List.set_cons_zero, List.set_cons_succ, List.cons_append, List.nil_append, List.append_nil, Nat.reduceAdd, Nat.reduceSub, Nat.sub_zero, Nat.sub_self, Nat.zero_add, List.getElem?_cons_zero, List.getElem?_cons_succ, decide_true, decide_false, Bool.not_true, Bool.not_false, List.isEmpty_cons, List.isEmpty_nil, Nat.reduceLeDiff, Nat.reduceSucc, x_Me, x_meK, x_Me0, ty_ss, ty_lo, ty_ll, ty_dd, ty_lr, ap_o, up_l, pop_o, pop_l, asT_o, tru_l, tru_d, ext_o, lsts_r, lsts_t, x_chain, in_ssF, in_ssT, in_t, in_r, in_o, inK_sF, inK_sT, flat_s, flat_i, List.all_cons, List.all_nil, Bool.and_true, Bool.true_and, rev_t, rev_r, sum_r, maxL_r, minL_r, any_r, all_r, inc_ii, x_aug, x_lc, x_lc2, lcEnd_f, lcEnd_t, x_yes, x_Sl, x_oN, x_oS, asI_i, sl_t, sl_r, cut1, js_nil, js_cons, add_or, x_raise, x_raiseI, rai_2, x_try, try_nx, try_rt, try_e0, try_e2, hot_bl, x_isx, isx_1, x_fld, fld_1, L_app, in_L, x_small, ln, z, lit_b, ix, q, ↓g1, x_need, hneed, one_g0, one_s0]
        have fo : ∀ (S : Store) (d : D) (ds : List D) (o3 o4 : Option D), forP (gNm 3) L__law_split_1 (d :: ds) [some (.str (L l)), some (.obj S.length), some (.int (i : Int)), o3, o4] (S ++ [.lst acc]) = forP (gNm 3) L__law_split_1 ds [some (.str (L l)), some (.obj S.length), some (.int ((i + m : Nat) : Int)), some d, some (.tup [.int ((i + m : Nat) : Int), .str k, v])] (S ++ [.lst (acc ++ [.tup [.int (i : Int), .str k, v]])]) := fun S d ds o3 o4 => by
          have e2 : L__law_split_1 ([some (.str (L l)), some (.obj S.length), some (.int (i : Int)), o3, o4].set 3 (some d)) (S ++ [.lst acc]) = .nx [some (.str (L l)), some (.obj S.length), some (.int ((i + m : Nat) : Int)), some d, some (.tup [.int ((i + m : Nat) : Int), .str k, v])] (S ++ [.lst (acc ++ [.tup [.int (i : Int), .str k, v]])]) := by
            simp only [L__law_split_1, x_bnd, k_ok, k_exc, k_stuck, x_giv, x_fail, selM_t, selM_f, selS_t, selS_f, sK_ok, sK_exc, sK_stuck, x_seq, seq_nx, seq_bk, seq_ct, seq_rt, seq_exc, seq_stuck, x_ret, x_retN, x_exp, x_set, x_nil, x_brk, x_cnt, x_tgt, tK_ok, tK_stuck, x_asgK, x_asg, ifK_t, ifK_f, x_if, x_fgK, fK_bk, fK_rt, fK_exc, for_src, x_fpK, fpK_nx, fpK_ct, srcK_nil, srcK_rng, x_for, x_def, defK_rt, defK_nx, defK_exc, slot_some, x_slot, x_c, x_Nil, x_consK, x_cons, x_F, x_m2K, x_m2, x_m1, x_B, x_T, asB_bl, asT_bl, asT_int, asT_non, asT_tup, asT_rol, asT_frz, x_And, x_Or, andK_t, andK_f, orK_t, orK_f, x_Not, x_AndV, x_OrV, x_andVK, x_orVK, x_NotV, x_IfE, ifEK_t, ifEK_f, x_Tup, x_Lst, x_mkF, x_mkT, x_Call, add_ii, sub_ii, neg_i, cmp_ii, eq_ii, eq_bb, eq_ss, ne_ii, ne_ss, is_n, isnot_n, non_n, non_i, non_b, non_s, non_t, non_r, non_o, ix_t, ix_r, ix_f, lst_s, ix_oo, len_oo, srcL_oo, set_oo, setO_l, opt_s, len_t, len_r, len_f, abs_i, int_i, int_b, max_ii, min_ii, gcd_ii, list_f, list_r, list_t, tuple_r, tuple_t, x_It, x_Nm, x_Tp, x_gN, x_gC, x_iE, x_iF, srcL_f, srcL_r, srcT_t, srcS_s, x_Isi, isi_tt, isi_ti, isi_tn, isi_tb, isi_ts, isi_bt, isi_bi, isi_bn, isi_bb, isi_bs, isi_st, isi_si, isi_sn, isi_sb, isi_ss, isi_it, isi_ii, isi_in, isi_ib, isi_is, at0, at1, at2, at3, ix0, ix1, ix2, ix3, whC_t, whC_f, whK_nx, whK_ct, whK_bk, whK_rt, List.map_cons, List.map_nil, List.length_cons, List.length_nil, List.replicate_succ, List.replicate_zero, List.set_cons_zero, List.set_cons_succ, List.cons_append, List.nil_append, List.append_nil, Nat.reduceAdd, Nat.reduceSub, Nat.sub_zero, Nat.sub_self, Nat.zero_add, List.getElem?_cons_zero, List.getElem?_cons_succ, decide_true, decide_false, Bool.not_true, Bool.not_false, List.isEmpty_cons, List.isEmpty_nil, Nat.reduceLeDiff, Nat.reduceSucc, x_Me, x_meK, x_Me0, ty_ss, ty_lo, ty_ll, ty_dd, ty_lr, ap_o, up_l, pop_o, pop_l, asT_o, tru_l, tru_d, ext_o, lsts_r, lsts_t, x_chain, in_ssF, in_ssT, in_t, in_r, in_o, inK_sF, inK_sT, flat_s, flat_i, List.all_cons, List.all_nil, Bool.and_true, Bool.true_and, rev_t, rev_r, sum_r, maxL_r, minL_r, any_r, all_r, inc_ii, x_aug, x_lc, x_lc2, lcEnd_f, lcEnd_t, x_yes, x_Sl, x_oN, x_oS, asI_i, sl_t, sl_r, cut1, js_nil, js_cons, add_or, x_raise, x_raiseI, rai_2, x_try, try_nx, try_rt, try_e0, try_e2, hot_bl, x_isx, isx_1, x_fld, fld_1, L_app, in_L, x_small, ln, z, lit_b, ix, q, ↓g2, x_need, hneed, one_g0, one_s0]
          rw [fp_cons, x_Nm, tK_ok, x_fpK, e2, fpK_nx]
        have hp' : ∀ d ∈ acc ++ [D.tup [.int (i : Int), .str k, v]], plain 4 d := fun d hd => by
          rcases List.mem_append.mp hd with hd | hd
          · exact hp d hd
          · have : d = .tup [.int (i : Int), .str k, v] := by simpa using hd
            subst this
            refine ⟨by show 3 < Lim; decide, fun x hx => ?_⟩
            simp only [List.mem_cons, List.not_mem_nil, or_false] at hx
            rcases hx with rfl | rfl | rfl
            · trivial
            · trivial
            · exact pv
        rcases ih (i + m) (acc ++ [.tup [.int (i : Int), .str k, v]]) (by omega) (by omega) (by rw [List.length_append]; simp; omega) hp' with ⟨ts, t1, t2, h1, h2⟩ | ⟨ts, j, r, h1, h2⟩
        · refine .inl ⟨ts, t1, t2, fun S n o3 o4 o5 hn => ?_, fun S ds o3 o4 hd => ?_⟩
          · obtain ⟨n, rfl⟩ : ∃ m, n = m + 1 := ⟨n - 1, by omega⟩
            rw [w]
            exact h1 S n _ _ _ (by omega)
          · cases ds with
            | nil => simp at hd; omega
            | cons d ds => rw [fo]; exact h2 S ds _ _ (by simp at hd; omega)
        · refine .inr ⟨ts, j, r, fun S n o3 o4 o5 hn => ?_, fun S ds o3 o4 hd => ?_⟩
          · obtain ⟨n, rfl⟩ : ∃ m, n = m + 1 := ⟨n - 1, by omega⟩
            rw [w]
            exact h1 S n _ _ _ (by omega)
          · cases ds with
            | nil => simp at hd; omega
            | cons d ds => rw [fo]; exact h2 S ds _ _ (by simp at hd; omega)
      · refine .inr ⟨acc, i, r, fun S n o3 o4 o5 hn => ?_, fun S ds o3 o4 hd => ?_⟩
        · obtain ⟨n, rfl⟩ : ∃ m, n = m + 1 := ⟨n - 1, by omega⟩
          exact ⟨[some (.str (L l)), some (.obj S.length), some (.int (i : Int)), o3, o4, o5], by simp only [x_whN, L_split_text_1, spT, x_bnd, k_ok, k_exc, k_stuck, x_giv, x_fail, selM_t, selM_f, selS_t, selS_f, sK_ok, sK_exc, sK_stuck, x_seq, seq_nx, seq_bk, seq_ct, seq_rt, seq_exc, seq_stuck, x_ret, x_retN, x_exp, x_set, x_nil, x_brk, x_cnt, x_tgt, tK_ok, tK_stuck, x_asgK, x_asg, ifK_t, ifK_f, x_if, x_fgK, fK_bk, fK_rt, fK_exc, for_src, x_fpK, fpK_nx, fpK_ct, srcK_nil, srcK_rng, x_for, x_def, defK_rt, defK_nx, defK_exc, slot_some, x_slot, x_c, x_Nil, x_consK, x_cons, x_F, x_m2K, x_m2, x_m1, x_B, x_T, asB_bl, asT_bl, asT_int, asT_non, asT_tup, asT_rol, asT_frz, x_And, x_Or, andK_t, andK_f, orK_t, orK_f, x_Not, x_AndV, x_OrV, x_andVK, x_orVK, x_NotV, x_IfE, ifEK_t, ifEK_f, x_Tup, x_Lst, x_mkF, x_mkT, x_Call, add_ii, sub_ii, neg_i, cmp_ii, eq_ii, eq_bb, eq_ss, ne_ii, ne_ss, is_n, isnot_n, non_n, non_i, non_b, non_s, non_t, non_r, non_o, ix_t, ix_r, ix_f, lst_s, ix_oo, len_oo, srcL_oo, set_oo, setO_l, opt_s, len_t, len_r, len_f, abs_i, int_i, int_b, max_ii, min_ii, gcd_ii, list_f, list_r, list_t, tuple_r, tuple_t, x_It, x_Nm, x_Tp, x_gN, x_gC, x_iE, x_iF, srcL_f, srcL_r, srcT_t, srcS_s, x_Isi, isi_tt, isi_ti, isi_tn, isi_tb, isi_ts, isi_bt, isi_bi, isi_bn, isi_bb, isi_bs, isi_st, isi_si, isi_sn, isi_sb, isi_ss, isi_it, isi_ii, isi_in, isi_ib, isi_is, at0, at1, at2, at3, ix0, ix1, ix2, ix3, whC_t, whC_f, whK_nx, whK_ct, whK_bk, whK_rt, List.map_cons, List.map_nil, List.length_cons, List.length_nil, List.replicate_succ, List.replicate_zero, List.set_cons_zero, List.set_cons_succ, List.cons_append, List.nil_append, List.append_nil, Nat.reduceAdd, Nat.reduceSub, Nat.sub_zero, Nat.sub_self, Nat.zero_add, List.getElem?_cons_zero, List.getElem?_cons_succ, decide_true, decide_false, Bool.not_true, Bool.not_false, List.isEmpty_cons, List.isEmpty_nil, Nat.reduceLeDiff, Nat.reduceSucc, x_Me, x_meK, x_Me0, ty_ss, ty_lo, ty_ll, ty_dd, ty_lr, ap_o, up_l, pop_o, pop_l, asT_o, tru_l, tru_d, ext_o, lsts_r, lsts_t, x_chain, in_ssF, in_ssT, in_t, in_r, in_o, inK_sF, inK_sT, flat_s, flat_i, List.all_cons, List.all_nil, Bool.and_true, Bool.true_and, rev_t, rev_r, sum_r, maxL_r, minL_r, any_r, all_r, inc_ii, x_aug, x_lc, x_lc2, lcEnd_f, lcEnd_t, x_yes, x_Sl, x_oN, x_oS, asI_i, sl_t, sl_r, cut1, js_nil, js_cons, add_or, x_raise, x_raiseI, rai_2, x_try, try_nx, try_rt, try_e0, try_e2, hot_bl, x_isx, isx_1, x_fld, fld_1, L_app, in_L, x_small, x_need, ln, z, lit_b, ix, q, ↓g1, asg_exc]; rfl⟩
        · cases ds with
          | nil => simp at hd; omega
          | cons d ds =>
            have e2 : L__law_split_1 ([some (.str (L l)), some (.obj S.length), some (.int (i : Int)), o3, o4].set 3 (some d)) (S ++ [.lst acc]) = .rt (.rol [.obj S.length, .tup [.int (i : Int), .str r]]) (S ++ [.lst acc]) := by
              simp only [L__law_split_1, x_bnd, k_ok, k_exc, k_stuck, x_giv, x_fail, selM_t, selM_f, selS_t, selS_f, sK_ok, sK_exc, sK_stuck, x_seq, seq_nx, seq_bk, seq_ct, seq_rt, seq_exc, seq_stuck, x_ret, x_retN, x_exp, x_set, x_nil, x_brk, x_cnt, x_tgt, tK_ok, tK_stuck, x_asgK, x_asg, ifK_t, ifK_f, x_if, x_fgK, fK_bk, fK_rt, fK_exc, for_src, x_fpK, fpK_nx, fpK_ct, srcK_nil, srcK_rng, x_for, x_def, defK_rt, defK_nx, defK_exc, slot_some, x_slot, x_c, x_Nil, x_consK, x_cons, x_F, x_m2K, x_m2, x_m1, x_B, x_T, asB_bl, asT_bl, asT_int, asT_non, asT_tup, asT_rol, asT_frz, x_And, x_Or, andK_t, andK_f, orK_t, orK_f, x_Not, x_AndV, x_OrV, x_andVK, x_orVK, x_NotV, x_IfE, ifEK_t, ifEK_f, x_Tup, x_Lst, x_mkF, x_mkT, x_Call, add_ii, sub_ii, neg_i, cmp_ii, eq_ii, eq_bb, eq_ss, ne_ii, ne_ss, is_n, isnot_n, non_n, non_i, non_b, non_s, non_t, non_r, non_o, ix_t, ix_r, ix_f, lst_s, ix_oo, len_oo, srcL_oo, set_oo, setO_l, opt_s, len_t, len_r, len_f, abs_i, int_i, int_b, max_ii, min_ii, gcd_ii, list_f, list_r, list_t, tuple_r, tuple_t, x_It, x_Nm, x_Tp, x_gN, x_gC, x_iE, x_iF, srcL_f, srcL_r, srcT_t, srcS_s, x_Isi, isi_tt, isi_ti, isi_tn, isi_tb, isi_ts, isi_bt, isi_bi, isi_bn, isi_bb, isi_bs, isi_st, isi_si, isi_sn, isi_sb, isi_ss, isi_it, isi_ii, isi_in, isi_ib, isi_is, at0, at1, at2, at3, ix0, ix1, ix2, ix3, whC_t, whC_f, whK_nx, whK_ct, whK_bk, whK_rt, List.map_cons, List.map_nil, List.length_cons, List.length_nil, List.replicate_succ, List.replicate_zero, List.set_cons_zero, List.set_cons_succ, List.cons_append, List.nil_append, List.append_nil, Nat.reduceAdd, Nat.reduceSub, Nat.sub_zero, Nat.sub_self, Nat.zero_add, List.getElem?_cons_zero, List.getElem?_cons_succ, decide_true, decide_false, Bool.not_true, Bool.not_false, List.isEmpty_cons, List.isEmpty_nil, Nat.reduceLeDiff, Nat.reduceSucc, x_Me, x_meK, x_Me0, ty_ss, ty_lo, ty_ll, ty_dd, ty_lr, ap_o, up_l, pop_o, pop_l, asT_o, tru_l, tru_d, ext_o, lsts_r, lsts_t, x_chain, in_ssF, in_ssT, in_t, in_r, in_o, inK_sF, inK_sT, flat_s, flat_i, List.all_cons, List.all_nil, Bool.and_true, Bool.true_and, rev_t, rev_r, sum_r, maxL_r, minL_r, any_r, all_r, inc_ii, x_aug, x_lc, x_lc2, lcEnd_f, lcEnd_t, x_yes, x_Sl, x_oN, x_oS, asI_i, sl_t, sl_r, cut1, js_nil, js_cons, add_or, x_raise, x_raiseI, rai_2, x_try, try_nx, try_rt, try_e0, try_e2, hot_bl, x_isx, isx_1, x_fld, fld_1, L_app, in_L, x_small, x_need, ln, z, lit_b, ix, q, ↓g2]
            rw [fp_cons, x_Nm, tK_ok, x_fpK, e2]
            rfl
end K09

set_option Elab.async false
set_option linter.all false
set_option maxHeartbeats 4000000
set_option maxRecDepth 100000
set_option exponentiation.threshold 10000
namespace K09
open PySem PySem.Spec PyProof.Rows L2 Py
theorem tuple_o {n : Nat} {S : Store} {ts : List D} (h : S[n]? = some (.lst ts)) : gTuple [.obj n] S = .ok (.tup ts) S := by
  have e : gTuple [.obj n] S = bndK (fun ds => giv (.tup ds)) (getQ (.obj n) S) := x_bnd
  have e2 : getQ (.obj n) S = lstO S[n]? S := rfl
  rw [e, e2, h]
  rfl
theorem split_spec {l : List Nat} (hl : l.length ≤ 10000) :
    (∃ ts : List D, ts.length ≤ l.length ∧ (∀ d ∈ ts, plain 4 d) ∧ (∀ S, m_split_text [.str (L l)] S = .ok (.tup ts) (S ++ [.lst ts])) ∧ ∀ S, m__law_split [.str (L l)] S = .ok (.rol [.obj S.length, .non]) (S ++ [.lst ts])) ∨
    (∃ (ts : List D) (j : Nat) (r : Str), (∀ S, m_split_text [.str (L l)] S = .exc (FE r j) (S ++ [.lst ts])) ∧ ∀ S, m__law_split [.str (L l)] S = .ok (.rol [.obj S.length, .tup [.int (j : Int), .str r]]) (S ++ [.lst ts])) := by
  have rg : ∀ S, rng1 [.int ((l.length : Nat) : Int)] S = .ok (srcR 0 ((l.length : Nat) : Int)) S := fun S => rng1_i (by omega)
  have ln := fun S => len_L (l := l) (S := S) (by omega)
  rcases split_loops hl l.length 0 [] (by omega) (by omega) (by simp) (fun d h => by simp at h) with ⟨ts, t1, t2, h1, h2⟩ | ⟨ts, j, r, h1, h2⟩
  · refine .inl ⟨ts, t1, t2, fun S => ?_, fun S => ?_⟩
    · obtain ⟨e3, e4, e5, w⟩ := h1 S (l.length + 1) none none none (by omega)
      have w := while_of w (by simp)
      have w : sWhile spT L_split_text_1 [some (.str (L l)), some (.obj S.length), some (.int 0), none, none, none] (S ++ [.lst []]) = .nx [some (.str (L l)), some (.obj S.length), some (.int ((l.length : Nat) : Int)), e3, e4, e5] (S ++ [.lst ts]) := w
      have tu := tuple_o (n := S.length) (S := S ++ [.lst ts]) (ts := ts) one_g0
      simp only [m_split_text, x_bnd, k_ok, k_exc, k_stuck, x_giv, x_fail, selM_t, selM_f, selS_t, selS_f, sK_ok, sK_exc, sK_stuck, x_seq, seq_nx, seq_bk, seq_ct, seq_rt, seq_exc, seq_stuck, x_ret, x_retN, x_exp, x_set, x_nil, x_brk, x_cnt, x_tgt, tK_ok, tK_stuck, x_asgK, x_asg, ifK_t, ifK_f, x_if, x_fgK, fK_bk, fK_rt, fK_exc, for_src, x_fpK, fpK_nx, fpK_ct, srcK_nil, srcK_rng, x_for, x_def, defK_rt, defK_nx, defK_exc, slot_some, x_slot, x_c, x_Nil, x_consK, x_cons, x_F, x_m2K, x_m2, x_m1, x_B, x_T, asB_bl, asT_bl, asT_int, asT_non, asT_tup, asT_rol, asT_frz, x_And, x_Or, andK_t, andK_f, orK_t, orK_f, x_Not, x_AndV, x_OrV, x_andVK, x_orVK, x_NotV, x_IfE, ifEK_t, ifEK_f, x_Tup, x_Lst, x_mkF, x_mkT, x_Call, add_ii, sub_ii, neg_i, cmp_ii, eq_ii, eq_bb, eq_ss, ne_ii, ne_ss, is_n, isnot_n, non_n, non_i, non_b, non_s, non_t, non_r, non_o, ix_t, ix_r, ix_f, lst_s, ix_oo, len_oo, srcL_oo, set_oo, setO_l, opt_s, len_t, len_r, len_f, abs_i, int_i, int_b, max_ii, min_ii, gcd_ii, list_f, list_r, list_t, tuple_r, tuple_t, x_It, x_Nm, x_Tp, x_gN, x_gC, x_iE, x_iF, srcL_f, srcL_r, srcT_t, srcS_s, x_Isi, isi_tt, isi_ti, isi_tn, isi_tb, isi_ts, isi_bt, isi_bi, isi_bn, isi_bb, isi_bs, isi_st, isi_si, isi_sn, isi_sb, isi_ss, isi_it, isi_ii, isi_in, isi_ib, isi_is, at0, at1, at2, at3, ix0, ix1, ix2, ix3, whC_t, whC_f, whK_nx, whK_ct, whK_bk, whK_rt, List.map_cons, List.map_nil, List.length_cons, List.length_nil, List.replicate_succ, List.replicate_zero, List.set_cons_zero, List.set_cons_succ, List.cons_append, List.nil_append, List.append_nil, Nat.reduceAdd, Nat.reduceSub, Nat.sub_zero, Nat.sub_self, Nat.zero_add, List.getElem?_cons_zero, List.getElem?_cons_succ, decide_true, decide_false, Bool.not_true, Bool.not_false, List.isEmpty_cons, List.isEmpty_nil, Nat.reduceLeDiff, Nat.reduceSucc, x_Me, x_meK, x_Me0, ty_ss, ty_lo, ty_ll, ty_dd, ty_lr, ap_o, up_l, pop_o, pop_l, asT_o, tru_l, tru_d, ext_o, lsts_r, lsts_t, x_chain, in_ssF, in_ssT, in_t, in_r, in_o, inK_sF, inK_sT, flat_s, flat_i, List.all_cons, List.all_nil, Bool.and_true, Bool.true_and, rev_t, rev_r, sum_r, maxL_r, minL_r, any_r, all_r, inc_ii, x_aug, x_lc, x_lc2, lcEnd_f, lcEnd_t, x_yes, x_Sl, x_oN, x_oS, asI_i, sl_t, sl_r, cut1, js_nil, js_cons, add_or, x_raise, x_raiseI, rai_2, x_try, try_nx, try_rt, try_e0, try_e2, hot_bl, x_isx, isx_1, x_fld, fld_1, L_app, in_L, x_small, ↓w, tu]
    · obtain ⟨e3, e4, w⟩ := h2 S ((List.range (((l.length : Nat) : Int) - 0).toNat).map fun (k : Nat) => D.int (0 + (k : Int))) none none (by simp)
      have w : forP (gNm 3) L__law_split_1 ((List.range (((l.length : Nat) : Int) - 0).toNat).map fun (k : Nat) => D.int (0 + (k : Int))) [some (.str (L l)), some (.obj S.length), some (.int 0), none, none] (S ++ [.lst []]) = .nx [some (.str (L l)), some (.obj S.length), some (.int ((l.length : Nat) : Int)), e3, e4] (S ++ [.lst ts]) := w
      simp only [m__law_split, x_bnd, k_ok, k_exc, k_stuck, x_giv, x_fail, selM_t, selM_f, selS_t, selS_f, sK_ok, sK_exc, sK_stuck, x_seq, seq_nx, seq_bk, seq_ct, seq_rt, seq_exc, seq_stuck, x_ret, x_retN, x_exp, x_set, x_nil, x_brk, x_cnt, x_tgt, tK_ok, tK_stuck, x_asgK, x_asg, ifK_t, ifK_f, x_if, x_fgK, fK_bk, fK_rt, fK_exc, for_src, x_fpK, fpK_nx, fpK_ct, srcK_nil, srcK_rng, x_for, x_def, defK_rt, defK_nx, defK_exc, slot_some, x_slot, x_c, x_Nil, x_consK, x_cons, x_F, x_m2K, x_m2, x_m1, x_B, x_T, asB_bl, asT_bl, asT_int, asT_non, asT_tup, asT_rol, asT_frz, x_And, x_Or, andK_t, andK_f, orK_t, orK_f, x_Not, x_AndV, x_OrV, x_andVK, x_orVK, x_NotV, x_IfE, ifEK_t, ifEK_f, x_Tup, x_Lst, x_mkF, x_mkT, x_Call, add_ii, sub_ii, neg_i, cmp_ii, eq_ii, eq_bb, eq_ss, ne_ii, ne_ss, is_n, isnot_n, non_n, non_i, non_b, non_s, non_t, non_r, non_o, ix_t, ix_r, ix_f, lst_s, ix_oo, len_oo, srcL_oo, set_oo, setO_l, opt_s, len_t, len_r, len_f, abs_i, int_i, int_b, max_ii, min_ii, gcd_ii, list_f, list_r, list_t, tuple_r, tuple_t, x_It, x_Nm, x_Tp, x_gN, x_gC, x_iE, x_iF, srcL_f, srcL_r, srcT_t, srcS_s, x_Isi, isi_tt, isi_ti, isi_tn, isi_tb, isi_ts, isi_bt, isi_bi, isi_bn, isi_bb, isi_bs, isi_st, isi_si, isi_sn, isi_sb, isi_ss, isi_it, isi_ii, isi_in, isi_ib, isi_is, at0, at1, at2, at3, ix0, ix1, ix2, ix3, whC_t, whC_f, whK_nx, whK_ct, whK_bk, whK_rt, List.map_cons, List.map_nil, List.length_cons, List.length_nil, List.replicate_succ, List.replicate_zero, List.set_cons_zero, List.set_cons_succ, List.cons_append, List.nil_append, List.append_nil, Nat.reduceAdd, Nat.reduceSub, Nat.sub_zero, Nat.sub_self, Nat.zero_add, List.getElem?_cons_zero, List.getElem?_cons_succ, decide_true, decide_false, Bool.not_true, Bool.not_false, List.isEmpty_cons, List.isEmpty_nil, Nat.reduceLeDiff, Nat.reduceSucc, x_Me, x_meK, x_Me0, ty_ss, ty_lo, ty_ll, ty_dd, ty_lr, ap_o, up_l, pop_o, pop_l, asT_o, tru_l, tru_d, ext_o, lsts_r, lsts_t, x_chain, in_ssF, in_ssT, in_t, in_r, in_o, inK_sF, inK_sT, flat_s, flat_i, List.all_cons, List.all_nil, Bool.and_true, Bool.true_and, rev_t, rev_r, sum_r, maxL_r, minL_r, any_r, all_r, inc_ii, x_aug, x_lc, x_lc2, lcEnd_f, lcEnd_t, x_yes, x_Sl, x_oN, x_oS, asI_i, sl_t, sl_r, cut1, js_nil, js_cons, add_or, x_raise, x_raiseI, rai_2, x_try, try_nx, try_rt, try_e0, try_e2, hot_bl, x_isx, isx_1, x_fld, fld_1, L_app, in_L, x_small, ln, rg, ↓w]
  · refine .inr ⟨ts, j, r, fun S => ?_, fun S => ?_⟩
    · obtain ⟨env', w⟩ := h1 S (l.length + 1) none none none (by omega)
      have w := while_of w (by simp)
      have w : sWhile spT L_split_text_1 [some (.str (L l)), some (.obj S.length), some (.int 0), none, none, none] (S ++ [.lst []]) = .exc (FE r j) env' (S ++ [.lst ts]) := w
      simp only [m_split_text, x_bnd, k_ok, k_exc, k_stuck, x_giv, x_fail, selM_t, selM_f, selS_t, selS_f, sK_ok, sK_exc, sK_stuck, x_seq, seq_nx, seq_bk, seq_ct, seq_rt, seq_exc, seq_stuck, x_ret, x_retN, x_exp, x_set, x_nil, x_brk, x_cnt, x_tgt, tK_ok, tK_stuck, x_asgK, x_asg, ifK_t, ifK_f, x_if, x_fgK, fK_bk, fK_rt, fK_exc, for_src, x_fpK, fpK_nx, fpK_ct, srcK_nil, srcK_rng, x_for, x_def, defK_rt, defK_nx, defK_exc, slot_some, x_slot, x_c, x_Nil, x_consK, x_cons, x_F, x_m2K, x_m2, x_m1, x_B, x_T, asB_bl, asT_bl, asT_int, asT_non, asT_tup, asT_rol, asT_frz, x_And, x_Or, andK_t, andK_f, orK_t, orK_f, x_Not, x_AndV, x_OrV, x_andVK, x_orVK, x_NotV, x_IfE, ifEK_t, ifEK_f, x_Tup, x_Lst, x_mkF, x_mkT, x_Call, add_ii, sub_ii, neg_i, cmp_ii, eq_ii, eq_bb, eq_ss, ne_ii, ne_ss, is_n, isnot_n, non_n, non_i, non_b, non_s, non_t, non_r, non_o, ix_t, ix_r, ix_f, lst_s, ix_oo, len_oo, srcL_oo, set_oo, setO_l, opt_s, len_t, len_r, len_f, abs_i, int_i, int_b, max_ii, min_ii, gcd_ii, list_f, list_r, list_t, tuple_r, tuple_t, x_It, x_Nm, x_Tp, x_gN, x_gC, x_iE, x_iF, srcL_f, srcL_r, srcT_t, srcS_s, x_Isi, isi_tt, isi_ti, isi_tn, isi_tb, isi_ts, isi_bt, isi_bi, isi_bn, isi_bb, isi_bs, isi_st, isi_si, isi_sn, isi_sb, isi_ss, isi_it, isi_ii, isi_in, isi_ib, isi_is, at0, at1, at2, at3, ix0, ix1, ix2, ix3, whC_t, whC_f, whK_nx, whK_ct, whK_bk, whK_rt, List.map_cons, List.map_nil, List.length_cons, List.length_nil, List.replicate_succ, List.replicate_zero, List.set_cons_zero, List.set_cons_succ, List.cons_append, List.nil_append, List.append_nil, Nat.reduceAdd, Nat.reduceSub, Nat.sub_zero, Nat.sub_self, Nat.zero_add, List.getElem?_cons_zero, List.getElem?_cons_succ, decide_true, decide_false, Bool.not_true, Bool.not_false, List.isEmpty_cons, List.isEmpty_nil, Nat.reduceLeDiff, Nat.reduceSucc, x_Me, x_meK, x_Me0, ty_ss, ty_lo, ty_ll, ty_dd, ty_lr, ap_o, up_l, pop_o, pop_l, asT_o, tru_l, tru_d, ext_o, lsts_r, lsts_t, x_chain, in_ssF, in_ssT, in_t, in_r, in_o, inK_sF, inK_sT, flat_s, flat_i, List.all_cons, List.all_nil, Bool.and_true, Bool.true_and, rev_t, rev_r, sum_r, maxL_r, minL_r, any_r, all_r, inc_ii, x_aug, x_lc, x_lc2, lcEnd_f, lcEnd_t, x_yes, x_Sl, x_oN, x_oS, asI_i, sl_t, sl_r, cut1, js_nil, js_cons, add_or, x_raise, x_raiseI, rai_2, x_try, try_nx, try_rt, try_e0, try_e2, hot_bl, x_isx, isx_1, x_fld, fld_1, L_app, in_L, x_small, ↓w]
    · have w := h2 S ((List.range (((l.length : Nat) : Int) - 0).toNat).map fun (k : Nat) => D.int (0 + (k : Int))) none none (by simp)
      have w : forP (gNm 3) L__law_split_1 ((List.range (((l.length : Nat) : Int) - 0).toNat).map fun (k : Nat) => D.int (0 + (k : Int))) [some (.str (L l)), some (.obj S.length), some (.int 0), none, none] (S ++ [.lst []]) = .rt (.rol [.obj S.length, .tup [.int (j : Int), .str r]]) (S ++ [.lst ts]) := w
      simp only [m__law_split, x_bnd, k_ok, k_exc, k_stuck, x_giv, x_fail, selM_t, selM_f, selS_t, selS_f, sK_ok, sK_exc, sK_stuck, x_seq, seq_nx, seq_bk, seq_ct, seq_rt, seq_exc, seq_stuck, x_ret, x_retN, x_exp, x_set, x_nil, x_brk, x_cnt, x_tgt, tK_ok, tK_stuck, x_asgK, x_asg, ifK_t, ifK_f, x_if, x_fgK, fK_bk, fK_rt, fK_exc, for_src, x_fpK, fpK_nx, fpK_ct, srcK_nil, srcK_rng, x_for, x_def, defK_rt, defK_nx, defK_exc, slot_some, x_slot, x_c, x_Nil, x_consK, x_cons, x_F, x_m2K, x_m2, x_m1, x_B, x_T, asB_bl, asT_bl, asT_int, asT_non, asT_tup, asT_rol, asT_frz, x_And, x_Or, andK_t, andK_f, orK_t, orK_f, x_Not, x_AndV, x_OrV, x_andVK, x_orVK, x_NotV, x_IfE, ifEK_t, ifEK_f, x_Tup, x_Lst, x_mkF, x_mkT, x_Call, add_ii, sub_ii, neg_i, cmp_ii, eq_ii, eq_bb, eq_ss, ne_ii, ne_ss, is_n, isnot_n, non_n, non_i, non_b, non_s, non_t, non_r, non_o, ix_t, ix_r, ix_f, lst_s, ix_oo, len_oo, srcL_oo, set_oo, setO_l, opt_s, len_t, len_r, len_f, abs_i, int_i, int_b, max_ii, min_ii, gcd_ii, list_f, list_r, list_t, tuple_r, tuple_t, x_It, x_Nm, x_Tp, x_gN, x_gC, x_iE, x_iF, srcL_f, srcL_r, srcT_t, srcS_s, x_Isi, isi_tt, isi_ti, isi_tn, isi_tb, isi_ts, isi_bt, isi_bi, isi_bn, isi_bb, isi_bs, isi_st, isi_si, isi_sn, isi_sb, isi_ss, isi_it, isi_ii, isi_in, isi_ib, isi_is, at0, at1, at2, at3, ix0, ix1, ix2, ix3, whC_t, whC_f, whK_nx, whK_ct, whK_bk, whK_rt, List.map_cons, List.map_nil, List.length_cons, List.length_nil, List.replicate_succ, List.replicate_zero, List.set_cons_zero, List.set_cons_succ, List.cons_append, List.nil_append, List.append_nil, Nat.reduceAdd, Nat.reduceSub, Nat.sub_zero, Nat.sub_self, Nat.zero_add, List.getElem?_cons_zero, List.getElem?_cons_succ, decide_true, decide_false, Bool.not_true, Bool.not_false, List.isEmpty_cons, List.isEmpty_nil, Nat.reduceLeDiff, Nat.reduceSucc, x_Me, x_meK, x_Me0, ty_ss, ty_lo, ty_ll, ty_dd, ty_lr, ap_o, up_l, pop_o, pop_l, asT_o, tru_l, tru_d, ext_o, lsts_r, lsts_t, x_chain, in_ssF, in_ssT, in_t, in_r, in_o, inK_sF, inK_sT, flat_s, flat_i, List.all_cons, List.all_nil, Bool.and_true, Bool.true_and, rev_t, rev_r, sum_r, maxL_r, minL_r, any_r, all_r, inc_ii, x_aug, x_lc, x_lc2, lcEnd_f, lcEnd_t, x_yes, x_Sl, x_oN, x_oS, asI_i, sl_t, sl_r, cut1, js_nil, js_cons, add_or, x_raise, x_raiseI, rai_2, x_try, try_nx, try_rt, try_e0, try_e2, hot_bl, x_isx, isx_1, x_fld, fld_1, L_app, in_L, x_small, ln, rg, ↓w]
theorem single_u (r : Str) (j : Nat) (S : Store) : m__law_single [.hot "FormulaError" ["reason", "place"] [.str r, .int (j : Int)]] S = .ok (.bl true) S := by
  have add : ∀ (a b : List D) S, a.length + b.length ≤ 1000 → dAdd false (.rol a) (.rol b) S = .ok (.rol (a ++ b)) S := fun a b S h => add_rr h
  have a1 := fun S => add [.bl false, .bl true, .bl false] [.bl false, .bl false, .bl false] S (by decide)
  have a2 := fun S => add [.bl false, .bl true, .bl false, .bl false, .bl false, .bl false] [.bl false, .bl false, .bl false] S (by decide)
  have a3 := fun S => add [.bl false, .bl true, .bl false, .bl false, .bl false, .bl false, .bl false, .bl false, .bl false] [.bl false, .bl false, .bl false] S (by decide)
  have a4 := fun S => add [.bl false, .bl true, .bl false, .bl false, .bl false, .bl false, .bl false, .bl false, .bl false, .bl false, .bl false, .bl false] [.bl false, .bl false] S (by decide)
  have c1 : ∀ S, gCount (.rol [.bl false, .bl true, .bl false, .bl false, .bl false, .bl false, .bl false, .bl false, .bl false, .bl false, .bl false, .bl false, .bl false, .bl false]) [.bl true] S = .ok (.int 1) S := fun S => by
    rw [cnt_r ⟨rfl, rfl⟩]
    rfl
  simp only [m__law_single, x_bnd, k_ok, k_exc, k_stuck, x_giv, x_fail, selM_t, selM_f, selS_t, selS_f, sK_ok, sK_exc, sK_stuck, x_seq, seq_nx, seq_bk, seq_ct, seq_rt, seq_exc, seq_stuck, x_ret, x_retN, x_exp, x_set, x_nil, x_brk, x_cnt, x_tgt, tK_ok, tK_stuck, x_asgK, x_asg, ifK_t, ifK_f, x_if, x_fgK, fK_bk, fK_rt, fK_exc, for_src, x_fpK, fpK_nx, fpK_ct, srcK_nil, srcK_rng, x_for, x_def, defK_rt, defK_nx, defK_exc, slot_some, x_slot, x_c, x_Nil, x_consK, x_cons, x_F, x_m2K, x_m2, x_m1, x_B, x_T, asB_bl, asT_bl, asT_int, asT_non, asT_tup, asT_rol, asT_frz, x_And, x_Or, andK_t, andK_f, orK_t, orK_f, x_Not, x_AndV, x_OrV, x_andVK, x_orVK, x_NotV, x_IfE, ifEK_t, ifEK_f, x_Tup, x_Lst, x_mkF, x_mkT, x_Call, add_ii, sub_ii, neg_i, cmp_ii, eq_ii, eq_bb, eq_ss, ne_ii, ne_ss, is_n, isnot_n, non_n, non_i, non_b, non_s, non_t, non_r, non_o, ix_t, ix_r, ix_f, lst_s, ix_oo, len_oo, srcL_oo, set_oo, setO_l, opt_s, len_t, len_r, len_f, abs_i, int_i, int_b, max_ii, min_ii, gcd_ii, list_f, list_r, list_t, tuple_r, tuple_t, x_It, x_Nm, x_Tp, x_gN, x_gC, x_iE, x_iF, srcL_f, srcL_r, srcT_t, srcS_s, x_Isi, isi_tt, isi_ti, isi_tn, isi_tb, isi_ts, isi_bt, isi_bi, isi_bn, isi_bb, isi_bs, isi_st, isi_si, isi_sn, isi_sb, isi_ss, isi_it, isi_ii, isi_in, isi_ib, isi_is, at0, at1, at2, at3, ix0, ix1, ix2, ix3, whC_t, whC_f, whK_nx, whK_ct, whK_bk, whK_rt, List.map_cons, List.map_nil, List.length_cons, List.length_nil, List.replicate_succ, List.replicate_zero, List.set_cons_zero, List.set_cons_succ, List.cons_append, List.nil_append, List.append_nil, Nat.reduceAdd, Nat.reduceSub, Nat.sub_zero, Nat.sub_self, Nat.zero_add, List.getElem?_cons_zero, List.getElem?_cons_succ, decide_true, decide_false, Bool.not_true, Bool.not_false, List.isEmpty_cons, List.isEmpty_nil, Nat.reduceLeDiff, Nat.reduceSucc, x_Me, x_meK, x_Me0, ty_ss, ty_lo, ty_ll, ty_dd, ty_lr, ap_o, up_l, pop_o, pop_l, asT_o, tru_l, tru_d, ext_o, lsts_r, lsts_t, x_chain, in_ssF, in_ssT, in_t, in_r, in_o, inK_sF, inK_sT, flat_s, flat_i, List.all_cons, List.all_nil, Bool.and_true, Bool.true_and, rev_t, rev_r, sum_r, maxL_r, minL_r, any_r, all_r, inc_ii, x_aug, x_lc, x_lc2, lcEnd_f, lcEnd_t, x_yes, x_Sl, x_oN, x_oS, asI_i, sl_t, sl_r, cut1, js_nil, js_cons, add_or, x_raise, x_raiseI, rai_2, x_try, try_nx, try_rt, try_e0, try_e2, hot_bl, x_isx, isx_1, x_fld, fld_1, L_app, in_L, x_small, a1, a2, a3, a4, c1]
theorem alike_u {l : List Nat} (hl : l.length ≤ 10000) : ∃ o1 o2 : Ob, ∀ S, m__law_split_alike [.str (L l)] S = .ok (.bl true) (S ++ [o1, o2]) := by
  rcases split_spec hl with ⟨ts, t1, t2, h1, h2⟩ | ⟨ts, j, r, h1, h2⟩
  · refine ⟨.lst ts, .lst ts, fun S => ?_⟩
    have h1' := h1 (S ++ [.lst ts])
    rw [List.append_assoc, List.cons_append, List.nil_append] at h1'
    have tu := tuple_o (n := S.length) (S := S ++ [.lst ts, .lst ts]) (ts := ts) two_g0
    have sm := same_self 12 (.tup ts) (S ++ [.lst ts, .lst ts]) ⟨by rw [lim_eq]; omega, fun x hx => plain_le (t2 x hx) (by decide)⟩
    simp only [m__law_split_alike, x_bnd, k_ok, k_exc, k_stuck, x_giv, x_fail, selM_t, selM_f, selS_t, selS_f, sK_ok, sK_exc, sK_stuck, x_seq, seq_nx, seq_bk, seq_ct, seq_rt, seq_exc, seq_stuck, x_ret, x_retN, x_exp, x_set, x_nil, x_brk, x_cnt, x_tgt, tK_ok, tK_stuck, x_asgK, x_asg, ifK_t, ifK_f, x_if, x_fgK, fK_bk, fK_rt, fK_exc, for_src, x_fpK, fpK_nx, fpK_ct, srcK_nil, srcK_rng, x_for, x_def, defK_rt, defK_nx, defK_exc, slot_some, x_slot, x_c, x_Nil, x_consK, x_cons, x_F, x_m2K, x_m2, x_m1, x_B, x_T, asB_bl, asT_bl, asT_int, asT_non, asT_tup, asT_rol, asT_frz, x_And, x_Or, andK_t, andK_f, orK_t, orK_f, x_Not, x_AndV, x_OrV, x_andVK, x_orVK, x_NotV, x_IfE, ifEK_t, ifEK_f, x_Tup, x_Lst, x_mkF, x_mkT, x_Call, add_ii, sub_ii, neg_i, cmp_ii, eq_ii, eq_bb, eq_ss, ne_ii, ne_ss, is_n, isnot_n, non_n, non_i, non_b, non_s, non_t, non_r, non_o, ix_t, ix_r, ix_f, lst_s, ix_oo, len_oo, srcL_oo, set_oo, setO_l, opt_s, len_t, len_r, len_f, abs_i, int_i, int_b, max_ii, min_ii, gcd_ii, list_f, list_r, list_t, tuple_r, tuple_t, x_It, x_Nm, x_Tp, x_gN, x_gC, x_iE, x_iF, srcL_f, srcL_r, srcT_t, srcS_s, x_Isi, isi_tt, isi_ti, isi_tn, isi_tb, isi_ts, isi_bt, isi_bi, isi_bn, isi_bb, isi_bs, isi_st, isi_si, isi_sn, isi_sb, isi_ss, isi_it, isi_ii, isi_in, isi_ib, isi_is, at0, at1, at2, at3, ix0, ix1, ix2, ix3, whC_t, whC_f, whK_nx, whK_ct, whK_bk, whK_rt, List.map_cons, List.map_nil, List.length_cons, List.length_nil, List.replicate_succ, List.replicate_zero, List.set_cons_zero, List.set_cons_succ, List.cons_append, List.nil_append, List.append_nil, Nat.reduceAdd, Nat.reduceSub, Nat.sub_zero, Nat.sub_self, Nat.zero_add, List.getElem?_cons_zero, List.getElem?_cons_succ, decide_true, decide_false, Bool.not_true, Bool.not_false, List.isEmpty_cons, List.isEmpty_nil, Nat.reduceLeDiff, Nat.reduceSucc, x_Me, x_meK, x_Me0, ty_ss, ty_lo, ty_ll, ty_dd, ty_lr, ap_o, up_l, pop_o, pop_l, asT_o, tru_l, tru_d, ext_o, lsts_r, lsts_t, x_chain, in_ssF, in_ssT, in_t, in_r, in_o, inK_sF, inK_sT, flat_s, flat_i, List.all_cons, List.all_nil, Bool.and_true, Bool.true_and, rev_t, rev_r, sum_r, maxL_r, minL_r, any_r, all_r, inc_ii, x_aug, x_lc, x_lc2, lcEnd_f, lcEnd_t, x_yes, x_Sl, x_oN, x_oS, asI_i, sl_t, sl_r, cut1, js_nil, js_cons, add_or, x_raise, x_raiseI, rai_2, x_try, try_nx, try_rt, try_e0, try_e2, hot_bl, x_isx, isx_1, x_fld, fld_1, L_app, in_L, x_small, x_need, h2, ↓h1', tu, sm]
  · refine ⟨.lst ts, .lst ts, fun S => ?_⟩
    have h1' := h1 (S ++ [.lst ts])
    rw [List.append_assoc, List.cons_append, List.nil_append] at h1'
    have f2 : ∀ S, fldK (PySem.Str.ofString "FormulaError") (PySem.Str.ofString "place") (.hot "FormulaError" ["reason", "place"] [.str r, .int (j : Int)]) S = .ok (.int (j : Int)) S := fun S => fld_2 (by decide)
    have sm := fun S => same_self 12 (.tup [.int (j : Int), .str r]) S (show plain 12 _ from ⟨by show 2 < Lim; decide, fun x hx => by
      simp only [List.mem_cons, List.not_mem_nil, or_false] at hx
      rcases hx with rfl | rfl <;> trivial⟩)
    have sg := fun S => single_u r j S
    simp only [m__law_split_alike, x_bnd, k_ok, k_exc, k_stuck, x_giv, x_fail, selM_t, selM_f, selS_t, selS_f, sK_ok, sK_exc, sK_stuck, x_seq, seq_nx, seq_bk, seq_ct, seq_rt, seq_exc, seq_stuck, x_ret, x_retN, x_exp, x_set, x_nil, x_brk, x_cnt, x_tgt, tK_ok, tK_stuck, x_asgK, x_asg, ifK_t, ifK_f, x_if, x_fgK, fK_bk, fK_rt, fK_exc, for_src, x_fpK, fpK_nx, fpK_ct, srcK_nil, srcK_rng, x_for, x_def, defK_rt, defK_nx, defK_exc, slot_some, x_slot, x_c, x_Nil, x_consK, x_cons, x_F, x_m2K, x_m2, x_m1, x_B, x_T, asB_bl, asT_bl, asT_int, asT_non, asT_tup, asT_rol, asT_frz, x_And, x_Or, andK_t, andK_f, orK_t, orK_f, x_Not, x_AndV, x_OrV, x_andVK, x_orVK, x_NotV, x_IfE, ifEK_t, ifEK_f, x_Tup, x_Lst, x_mkF, x_mkT, x_Call, add_ii, sub_ii, neg_i, cmp_ii, eq_ii, eq_bb, eq_ss, ne_ii, ne_ss, is_n, isnot_n, non_n, non_i, non_b, non_s, non_t, non_r, non_o, ix_t, ix_r, ix_f, lst_s, ix_oo, len_oo, srcL_oo, set_oo, setO_l, opt_s, len_t, len_r, len_f, abs_i, int_i, int_b, max_ii, min_ii, gcd_ii, list_f, list_r, list_t, tuple_r, tuple_t, x_It, x_Nm, x_Tp, x_gN, x_gC, x_iE, x_iF, srcL_f, srcL_r, srcT_t, srcS_s, x_Isi, isi_tt, isi_ti, isi_tn, isi_tb, isi_ts, isi_bt, isi_bi, isi_bn, isi_bb, isi_bs, isi_st, isi_si, isi_sn, isi_sb, isi_ss, isi_it, isi_ii, isi_in, isi_ib, isi_is, at0, at1, at2, at3, ix0, ix1, ix2, ix3, whC_t, whC_f, whK_nx, whK_ct, whK_bk, whK_rt, List.map_cons, List.map_nil, List.length_cons, List.length_nil, List.replicate_succ, List.replicate_zero, List.set_cons_zero, List.set_cons_succ, List.cons_append, List.nil_append, List.append_nil, Nat.reduceAdd, Nat.reduceSub, Nat.sub_zero, Nat.sub_self, Nat.zero_add, List.getElem?_cons_zero, List.getElem?_cons_succ, decide_true, decide_false, Bool.not_true, Bool.not_false, List.isEmpty_cons, List.isEmpty_nil, Nat.reduceLeDiff, Nat.reduceSucc, x_Me, x_meK, x_Me0, ty_ss, ty_lo, ty_ll, ty_dd, ty_lr, ap_o, up_l, pop_o, pop_l, asT_o, tru_l, tru_d, ext_o, lsts_r, lsts_t, x_chain, in_ssF, in_ssT, in_t, in_r, in_o, inK_sF, inK_sT, flat_s, flat_i, List.all_cons, List.all_nil, Bool.and_true, Bool.true_and, rev_t, rev_r, sum_r, maxL_r, minL_r, any_r, all_r, inc_ii, x_aug, x_lc, x_lc2, lcEnd_f, lcEnd_t, x_yes, x_Sl, x_oN, x_oS, asI_i, sl_t, sl_r, cut1, js_nil, js_cons, add_or, x_raise, x_raiseI, rai_2, x_try, try_nx, try_rt, try_e0, try_e2, hot_bl, x_isx, isx_1, x_fld, fld_1, L_app, in_L, x_small, x_need, h2, ↓h1', f2, sm, sg]
end K09

set_option Elab.async false
set_option linter.all false
set_option maxHeartbeats 4000000
set_option maxRecDepth 100000
set_option exponentiation.threshold 10000
namespace K09
open PySem PySem.Spec PyProof.Rows L2 Py
section
variable {cells : List Int} {c : Nat} {T S : Store}
theorem pickL_spec (h : Tape cells c T S) (hc : c < 2 ^ 60) {l : List Nat} (h0 : 0 < l.length) (hl : l.length < 1000) : ∃ (x : Nat) (S' : Store), m__law_pick [.obj 0, .str (L l)] S = .ok (.str (L [x])) S' ∧ Tape cells (c + 1) T S' := by
  obtain ⟨r, S1, e1, h1, r0, r1⟩ := draw_spec h hc (m := (l.length : Int)) (by omega)
  rw [if_neg (by omega)] at r1
  obtain ⟨i, rfl⟩ : ∃ i : Nat, r = (i : Int) := ⟨r.toNat, by omega⟩
  have hi : i < l.length := by omega
  have g := len_L (l := l) (S := S) (by omega)
  have ix := ix_L (l := l) (i := i) (S := S1) hi (by omega)
  refine ⟨l[i], S1, ?_, h1⟩
  simp only [m__law_pick, x_bnd, k_ok, k_exc, k_stuck, x_giv, x_fail, selM_t, selM_f, selS_t, selS_f, sK_ok, sK_exc, sK_stuck, x_seq, seq_nx, seq_bk, seq_ct, seq_rt, seq_exc, seq_stuck, x_ret, x_retN, x_exp, x_set, x_nil, x_brk, x_cnt, x_tgt, tK_ok, tK_stuck, x_asgK, x_asg, ifK_t, ifK_f, x_if, x_fgK, fK_bk, fK_rt, fK_exc, for_src, x_fpK, fpK_nx, fpK_ct, srcK_nil, srcK_rng, x_for, x_def, defK_rt, defK_nx, defK_exc, slot_some, x_slot, x_c, x_Nil, x_consK, x_cons, x_F, x_m2K, x_m2, x_m1, x_B, x_T, asB_bl, asT_bl, asT_int, asT_non, asT_tup, asT_rol, asT_frz, x_And, x_Or, andK_t, andK_f, orK_t, orK_f, x_Not, x_AndV, x_OrV, x_andVK, x_orVK, x_NotV, x_IfE, ifEK_t, ifEK_f, x_Tup, x_Lst, x_mkF, x_mkT, x_Call, add_ii, sub_ii, neg_i, cmp_ii, eq_ii, eq_bb, eq_ss, ne_ii, ne_ss, is_n, isnot_n, non_n, non_i, non_b, non_s, non_t, non_r, non_o, ix_t, ix_r, ix_f, lst_s, ix_oo, len_oo, srcL_oo, set_oo, setO_l, opt_s, len_t, len_r, len_f, abs_i, int_i, int_b, max_ii, min_ii, gcd_ii, list_f, list_r, list_t, tuple_r, tuple_t, x_It, x_Nm, x_Tp, x_gN, x_gC, x_iE, x_iF, srcL_f, srcL_r, srcT_t, srcS_s, x_Isi, isi_tt, isi_ti, isi_tn, isi_tb, isi_ts, isi_bt, isi_bi, isi_bn, isi_bb, isi_bs, isi_st, isi_si, isi_sn, isi_sb, isi_ss, isi_it, isi_ii, isi_in, isi_ib, isi_is, at0, at1, at2, at3, ix0, ix1, ix2, ix3, whC_t, whC_f, whK_nx, whK_ct, whK_bk, whK_rt, List.map_cons, List.map_nil, List.length_cons, List.length_nil, List.replicate_succ, List.replicate_zero, List.set_cons_zero, List.set_cons_succ, List.cons_append, List.nil_append, List.append_nil, Nat.reduceAdd, Nat.reduceSub, Nat.sub_zero, Nat.sub_self, Nat.zero_add, List.getElem?_cons_zero, List.getElem?_cons_succ, decide_true, decide_false, Bool.not_true, Bool.not_false, List.isEmpty_cons, List.isEmpty_nil, Nat.reduceLeDiff, Nat.reduceSucc, x_Me, x_meK, x_Me0, ty_ss, ty_lo, ty_ll, ty_dd, ty_lr, ap_o, up_l, pop_o, pop_l, asT_o, tru_l, tru_d, ext_o, lsts_r, lsts_t, x_chain, in_ssF, in_ssT, in_t, in_r, in_o, inK_sF, inK_sT, flat_s, flat_i, List.all_cons, List.all_nil, Bool.and_true, Bool.true_and, rev_t, rev_r, sum_r, maxL_r, minL_r, any_r, all_r, inc_ii, x_aug, x_lc, x_lc2, lcEnd_f, lcEnd_t, x_yes, x_Sl, x_oN, x_oS, asI_i, sl_t, sl_r, cut1, js_nil, js_cons, add_or, x_raise, x_raiseI, rai_2, x_try, try_nx, try_rt, try_e0, try_e2, hot_bl, x_isx, isx_1, x_fld, fld_1, L_app, in_L, x_small, x_need, g, e1, ix]
theorem sl_any (l : List Nat) (lo hi : Option Int) (h : l.length ≤ 10000) : ∃ l' : List Nat, l'.length ≤ l.length ∧ ∀ S, dSl false (.str (L l)) lo hi S = .ok (.str (L l')) S := by
  refine ⟨_, ?_, fun S => sl_L (by omega)⟩
  rw [List.length_take, List.length_drop]
  omega
theorem sl_upto (l : List Nat) (k : Nat) (h : l.length ≤ 10000) : ∃ l' : List Nat, l'.length ≤ k ∧ ∀ S, dSl false (.str (L l)) none (some (k : Int)) S = .ok (.str (L l')) S := by
  refine ⟨_, ?_, fun S => sl_L (by omega)⟩
  rw [sIx_nat, sIx_none, List.length_take]
  omega
/-- one drawn of texts -/
theorem pickS_spec (h : Tape cells c T S) (hc : c < 2 ^ 60) {xs : List Str} {n : Nat} (hn : ∀ x ∈ xs, x.length ≤ n) (h0 : 0 < xs.length) (hl : xs.length < 1000) : ∃ (p : List Nat) (S' : Store), p.length ≤ n ∧ m__law_pick [.obj 0, .rol (xs.map .str)] S = .ok (.str (L p)) S' ∧ Tape cells (c + 1) T S' := by
  obtain ⟨i, hi, S', e, ht⟩ := pick_spec h hc (ds := xs.map .str) (by simpa using h0) (by rw [List.length_map]; omega)
  have hi' : i < xs.length := by simpa using hi
  rw [List.getElem_map] at e
  refine ⟨xs[i].cps.toList, S', ?_, ?_, ht⟩
  · have := hn xs[i] (List.getElem_mem _)
    rw [← L_of xs[i], L_len] at this
    exact this
  · rw [L_of]
    exact e
theorem slen (s : String) (n : Nat) (h : (PySem.Str.ofString s).cps.size ≤ n) : (PySem.Str.ofString s).length ≤ n := h
theorem piece_spec (h : Tape cells c T S) (hc : c < 2 ^ 59) : ∃ (p : List Nat) (S' : Store), p.length ≤ 22 ∧ m__law_piece [.obj 0] S = .ok (.str (L p)) S' ∧ Tape cells (c + 2) T S' := by
  obtain ⟨r, S1, e1, t1, r0, r1⟩ := draw_spec h (by omega) (m := 12) (by decide)
  have r1 : r < 12 := r1
  have lt : PySem.Str.ofString "abcdefghijklmnopqrstuvwxyz" = L (List.range' 97 26) := lit_L _ _ (by decide +kernel)
  by_cases h3 : r < 3
  · obtain ⟨p, S2, pl, e2, t2⟩ := pickS_spec t1 (by omega) (xs := ["if", "and", "or", "not", "sum", "last", "floor", "iff", "Sum", "a", "x1", "Qz9"]) (n := 20) (by decide +kernel) (by decide) (by decide)
    simp only [List.map_cons, List.map_nil] at e2
    have d : decide (r < 3) = true := decide_eq_true h3
    refine ⟨p, S2, by omega, ?_, t2⟩
    simp only [m__law_piece, x_bnd, k_ok, k_exc, k_stuck, x_giv, x_fail, selM_t, selM_f, selS_t, selS_f, sK_ok, sK_exc, sK_stuck, x_seq, seq_nx, seq_bk, seq_ct, seq_rt, seq_exc, seq_stuck, x_ret, x_retN, x_exp, x_set, x_nil, x_brk, x_cnt, x_tgt, tK_ok, tK_stuck, x_asgK, x_asg, ifK_t, ifK_f, x_if, x_fgK, fK_bk, fK_rt, fK_exc, for_src, x_fpK, fpK_nx, fpK_ct, srcK_nil, srcK_rng, x_for, x_def, defK_rt, defK_nx, defK_exc, slot_some, x_slot, x_c, x_Nil, x_consK, x_cons, x_F, x_m2K, x_m2, x_m1, x_B, x_T, asB_bl, asT_bl, asT_int, asT_non, asT_tup, asT_rol, asT_frz, x_And, x_Or, andK_t, andK_f, orK_t, orK_f, x_Not, x_AndV, x_OrV, x_andVK, x_orVK, x_NotV, x_IfE, ifEK_t, ifEK_f, x_Tup, x_Lst, x_mkF, x_mkT, x_Call, add_ii, sub_ii, neg_i, cmp_ii, eq_ii, eq_bb, eq_ss, ne_ii, ne_ss, is_n, isnot_n, non_n, non_i, non_b, non_s, non_t, non_r, non_o, ix_t, ix_r, ix_f, lst_s, ix_oo, len_oo, srcL_oo, set_oo, setO_l, opt_s, len_t, len_r, len_f, abs_i, int_i, int_b, max_ii, min_ii, gcd_ii, list_f, list_r, list_t, tuple_r, tuple_t, x_It, x_Nm, x_Tp, x_gN, x_gC, x_iE, x_iF, srcL_f, srcL_r, srcT_t, srcS_s, x_Isi, isi_tt, isi_ti, isi_tn, isi_tb, isi_ts, isi_bt, isi_bi, isi_bn, isi_bb, isi_bs, isi_st, isi_si, isi_sn, isi_sb, isi_ss, isi_it, isi_ii, isi_in, isi_ib, isi_is, at0, at1, at2, at3, ix0, ix1, ix2, ix3, whC_t, whC_f, whK_nx, whK_ct, whK_bk, whK_rt, List.map_cons, List.map_nil, List.length_cons, List.length_nil, List.replicate_succ, List.replicate_zero, List.set_cons_zero, List.set_cons_succ, List.cons_append, List.nil_append, List.append_nil, Nat.reduceAdd, Nat.reduceSub, Nat.sub_zero, Nat.sub_self, Nat.zero_add, List.getElem?_cons_zero, List.getElem?_cons_succ, decide_true, decide_false, Bool.not_true, Bool.not_false, List.isEmpty_cons, List.isEmpty_nil, Nat.reduceLeDiff, Nat.reduceSucc, x_Me, x_meK, x_Me0, ty_ss, ty_lo, ty_ll, ty_dd, ty_lr, ap_o, up_l, pop_o, pop_l, asT_o, tru_l, tru_d, ext_o, lsts_r, lsts_t, x_chain, in_ssF, in_ssT, in_t, in_r, in_o, inK_sF, inK_sT, flat_s, flat_i, List.all_cons, List.all_nil, Bool.and_true, Bool.true_and, rev_t, rev_r, sum_r, maxL_r, minL_r, any_r, all_r, inc_ii, x_aug, x_lc, x_lc2, lcEnd_f, lcEnd_t, x_yes, x_Sl, x_oN, x_oS, asI_i, sl_t, sl_r, cut1, js_nil, js_cons, add_or, x_raise, x_raiseI, rai_2, x_try, try_nx, try_rt, try_e0, try_e2, hot_bl, x_isx, isx_1, x_fld, fld_1, L_app, in_L, x_small, x_need, e1, d, ↓e2]
  have d3 : decide (r < 3) = false := decide_eq_false h3
  by_cases h5 : r < 5
  · obtain ⟨p, S2, pl, e2, t2⟩ := pickS_spec t1 (by omega) (xs := ["0", "12", "007.50", "0.25", "2.0", "123456789", "12345678.9", "0.00000001", "5."]) (n := 20) (by decide +kernel) (by decide) (by decide)
    simp only [List.map_cons, List.map_nil] at e2
    have d : decide (r < 5) = true := decide_eq_true h5
    refine ⟨p, S2, by omega, ?_, t2⟩
    simp only [m__law_piece, x_bnd, k_ok, k_exc, k_stuck, x_giv, x_fail, selM_t, selM_f, selS_t, selS_f, sK_ok, sK_exc, sK_stuck, x_seq, seq_nx, seq_bk, seq_ct, seq_rt, seq_exc, seq_stuck, x_ret, x_retN, x_exp, x_set, x_nil, x_brk, x_cnt, x_tgt, tK_ok, tK_stuck, x_asgK, x_asg, ifK_t, ifK_f, x_if, x_fgK, fK_bk, fK_rt, fK_exc, for_src, x_fpK, fpK_nx, fpK_ct, srcK_nil, srcK_rng, x_for, x_def, defK_rt, defK_nx, defK_exc, slot_some, x_slot, x_c, x_Nil, x_consK, x_cons, x_F, x_m2K, x_m2, x_m1, x_B, x_T, asB_bl, asT_bl, asT_int, asT_non, asT_tup, asT_rol, asT_frz, x_And, x_Or, andK_t, andK_f, orK_t, orK_f, x_Not, x_AndV, x_OrV, x_andVK, x_orVK, x_NotV, x_IfE, ifEK_t, ifEK_f, x_Tup, x_Lst, x_mkF, x_mkT, x_Call, add_ii, sub_ii, neg_i, cmp_ii, eq_ii, eq_bb, eq_ss, ne_ii, ne_ss, is_n, isnot_n, non_n, non_i, non_b, non_s, non_t, non_r, non_o, ix_t, ix_r, ix_f, lst_s, ix_oo, len_oo, srcL_oo, set_oo, setO_l, opt_s, len_t, len_r, len_f, abs_i, int_i, int_b, max_ii, min_ii, gcd_ii, list_f, list_r, list_t, tuple_r, tuple_t, x_It, x_Nm, x_Tp, x_gN, x_gC, x_iE, x_iF, srcL_f, srcL_r, srcT_t, srcS_s, x_Isi, isi_tt, isi_ti, isi_tn, isi_tb, isi_ts, isi_bt, isi_bi, isi_bn, isi_bb, isi_bs, isi_st, isi_si, isi_sn, isi_sb, isi_ss, isi_it, isi_ii, isi_in, isi_ib, isi_is, at0, at1, at2, at3, ix0, ix1, ix2, ix3, whC_t, whC_f, whK_nx, whK_ct, whK_bk, whK_rt, List.map_cons, List.map_nil, List.length_cons, List.length_nil, List.replicate_succ, List.replicate_zero, List.set_cons_zero, List.set_cons_succ, List.cons_append, List.nil_append, List.append_nil, Nat.reduceAdd, Nat.reduceSub, Nat.sub_zero, Nat.sub_self, Nat.zero_add, List.getElem?_cons_zero, List.getElem?_cons_succ, decide_true, decide_false, Bool.not_true, Bool.not_false, List.isEmpty_cons, List.isEmpty_nil, Nat.reduceLeDiff, Nat.reduceSucc, x_Me, x_meK, x_Me0, ty_ss, ty_lo, ty_ll, ty_dd, ty_lr, ap_o, up_l, pop_o, pop_l, asT_o, tru_l, tru_d, ext_o, lsts_r, lsts_t, x_chain, in_ssF, in_ssT, in_t, in_r, in_o, inK_sF, inK_sT, flat_s, flat_i, List.all_cons, List.all_nil, Bool.and_true, Bool.true_and, rev_t, rev_r, sum_r, maxL_r, minL_r, any_r, all_r, inc_ii, x_aug, x_lc, x_lc2, lcEnd_f, lcEnd_t, x_yes, x_Sl, x_oN, x_oS, asI_i, sl_t, sl_r, cut1, js_nil, js_cons, add_or, x_raise, x_raiseI, rai_2, x_try, try_nx, try_rt, try_e0, try_e2, hot_bl, x_isx, isx_1, x_fld, fld_1, L_app, in_L, x_small, x_need, e1, d3, d, ↓e2]
  have d5 : decide (r < 5) = false := decide_eq_false h5
  by_cases h9 : r < 9
  · obtain ⟨p, S2, pl, e2, t2⟩ := pickS_spec t1 (by omega) (xs := ["(", ")", ",", "+", "-", "*", "/", "<", "<=", "=", "<>", ">=", ">", "==", "[-1]"]) (n := 20) (by decide +kernel) (by decide) (by decide)
    simp only [List.map_cons, List.map_nil] at e2
    have d : decide (r < 9) = true := decide_eq_true h9
    refine ⟨p, S2, by omega, ?_, t2⟩
    simp only [m__law_piece, x_bnd, k_ok, k_exc, k_stuck, x_giv, x_fail, selM_t, selM_f, selS_t, selS_f, sK_ok, sK_exc, sK_stuck, x_seq, seq_nx, seq_bk, seq_ct, seq_rt, seq_exc, seq_stuck, x_ret, x_retN, x_exp, x_set, x_nil, x_brk, x_cnt, x_tgt, tK_ok, tK_stuck, x_asgK, x_asg, ifK_t, ifK_f, x_if, x_fgK, fK_bk, fK_rt, fK_exc, for_src, x_fpK, fpK_nx, fpK_ct, srcK_nil, srcK_rng, x_for, x_def, defK_rt, defK_nx, defK_exc, slot_some, x_slot, x_c, x_Nil, x_consK, x_cons, x_F, x_m2K, x_m2, x_m1, x_B, x_T, asB_bl, asT_bl, asT_int, asT_non, asT_tup, asT_rol, asT_frz, x_And, x_Or, andK_t, andK_f, orK_t, orK_f, x_Not, x_AndV, x_OrV, x_andVK, x_orVK, x_NotV, x_IfE, ifEK_t, ifEK_f, x_Tup, x_Lst, x_mkF, x_mkT, x_Call, add_ii, sub_ii, neg_i, cmp_ii, eq_ii, eq_bb, eq_ss, ne_ii, ne_ss, is_n, isnot_n, non_n, non_i, non_b, non_s, non_t, non_r, non_o, ix_t, ix_r, ix_f, lst_s, ix_oo, len_oo, srcL_oo, set_oo, setO_l, opt_s, len_t, len_r, len_f, abs_i, int_i, int_b, max_ii, min_ii, gcd_ii, list_f, list_r, list_t, tuple_r, tuple_t, x_It, x_Nm, x_Tp, x_gN, x_gC, x_iE, x_iF, srcL_f, srcL_r, srcT_t, srcS_s, x_Isi, isi_tt, isi_ti, isi_tn, isi_tb, isi_ts, isi_bt, isi_bi, isi_bn, isi_bb, isi_bs, isi_st, isi_si, isi_sn, isi_sb, isi_ss, isi_it, isi_ii, isi_in, isi_ib, isi_is, at0, at1, at2, at3, ix0, ix1, ix2, ix3, whC_t, whC_f, whK_nx, whK_ct, whK_bk, whK_rt, List.map_cons, List.map_nil, List.length_cons, List.length_nil, List.replicate_succ, List.replicate_zero, List.set_cons_zero, List.set_cons_succ, List.cons_append, List.nil_append, List.append_nil, Nat.reduceAdd, Nat.reduceSub, Nat.sub_zero, Nat.sub_self, Nat.zero_add, List.getElem?_cons_zero, List.getElem?_cons_succ, decide_true, decide_false, Bool.not_true, Bool.not_false, List.isEmpty_cons, List.isEmpty_nil, Nat.reduceLeDiff, Nat.reduceSucc, x_Me, x_meK, x_Me0, ty_ss, ty_lo, ty_ll, ty_dd, ty_lr, ap_o, up_l, pop_o, pop_l, asT_o, tru_l, tru_d, ext_o, lsts_r, lsts_t, x_chain, in_ssF, in_ssT, in_t, in_r, in_o, inK_sF, inK_sT, flat_s, flat_i, List.all_cons, List.all_nil, Bool.and_true, Bool.true_and, rev_t, rev_r, sum_r, maxL_r, minL_r, any_r, all_r, inc_ii, x_aug, x_lc, x_lc2, lcEnd_f, lcEnd_t, x_yes, x_Sl, x_oN, x_oS, asI_i, sl_t, sl_r, cut1, js_nil, js_cons, add_or, x_raise, x_raiseI, rai_2, x_try, try_nx, try_rt, try_e0, try_e2, hot_bl, x_isx, isx_1, x_fld, fld_1, L_app, in_L, x_small, x_need, e1, d3, d5, d, ↓e2]
  have d9 : decide (r < 9) = false := decide_eq_false h9
  by_cases q9 : r = 9
  · obtain ⟨p, S2, pl, e2, t2⟩ := pickS_spec t1 (by omega) (xs := ["in", "x y", "<", "[-1] + if(a = 1, 2", " "]) (n := 20) (by decide +kernel) (by decide) (by decide)
    simp only [List.map_cons, List.map_nil] at e2
    have d : decide (r = 9) = true := decide_eq_true q9
    have a1 : ∀ S, dAdd false (.str (L [34])) (.str (L p)) S = .ok (.str (L (34 :: p))) S := fun S => add_L (a := [34]) (by simp; omega)
    have a2 : ∀ S, dAdd false (.str (L (34 :: p))) (.str (L [34])) S = .ok (.str (L (34 :: p ++ [34]))) S := fun S => add_L (a := 34 :: p) (by simp; omega)
    refine ⟨34 :: p ++ [34], S2, by simp; omega, ?_, t2⟩
    simp only [m__law_piece, x_bnd, k_ok, k_exc, k_stuck, x_giv, x_fail, selM_t, selM_f, selS_t, selS_f, sK_ok, sK_exc, sK_stuck, x_seq, seq_nx, seq_bk, seq_ct, seq_rt, seq_exc, seq_stuck, x_ret, x_retN, x_exp, x_set, x_nil, x_brk, x_cnt, x_tgt, tK_ok, tK_stuck, x_asgK, x_asg, ifK_t, ifK_f, x_if, x_fgK, fK_bk, fK_rt, fK_exc, for_src, x_fpK, fpK_nx, fpK_ct, srcK_nil, srcK_rng, x_for, x_def, defK_rt, defK_nx, defK_exc, slot_some, x_slot, x_c, x_Nil, x_consK, x_cons, x_F, x_m2K, x_m2, x_m1, x_B, x_T, asB_bl, asT_bl, asT_int, asT_non, asT_tup, asT_rol, asT_frz, x_And, x_Or, andK_t, andK_f, orK_t, orK_f, x_Not, x_AndV, x_OrV, x_andVK, x_orVK, x_NotV, x_IfE, ifEK_t, ifEK_f, x_Tup, x_Lst, x_mkF, x_mkT, x_Call, add_ii, sub_ii, neg_i, cmp_ii, eq_ii, eq_bb, eq_ss, ne_ii, ne_ss, is_n, isnot_n, non_n, non_i, non_b, non_s, non_t, non_r, non_o, ix_t, ix_r, ix_f, lst_s, ix_oo, len_oo, srcL_oo, set_oo, setO_l, opt_s, len_t, len_r, len_f, abs_i, int_i, int_b, max_ii, min_ii, gcd_ii, list_f, list_r, list_t, tuple_r, tuple_t, x_It, x_Nm, x_Tp, x_gN, x_gC, x_iE, x_iF, srcL_f, srcL_r, srcT_t, srcS_s, x_Isi, isi_tt, isi_ti, isi_tn, isi_tb, isi_ts, isi_bt, isi_bi, isi_bn, isi_bb, isi_bs, isi_st, isi_si, isi_sn, isi_sb, isi_ss, isi_it, isi_ii, isi_in, isi_ib, isi_is, at0, at1, at2, at3, ix0, ix1, ix2, ix3, whC_t, whC_f, whK_nx, whK_ct, whK_bk, whK_rt, List.map_cons, List.map_nil, List.length_cons, List.length_nil, List.replicate_succ, List.replicate_zero, List.set_cons_zero, List.set_cons_succ, List.cons_append, List.nil_append, List.append_nil, Nat.reduceAdd, Nat.reduceSub, Nat.sub_zero, Nat.sub_self, Nat.zero_add, List.getElem?_cons_zero, List.getElem?_cons_succ, decide_true, decide_false, Bool.not_true, Bool.not_false, List.isEmpty_cons, List.isEmpty_nil, Nat.reduceLeDiff, Nat.reduceSucc, x_Me, x_meK, x_Me0, ty_ss, ty_lo, ty_ll, ty_dd, ty_lr, ap_o, up_l, pop_o, pop_l, asT_o, tru_l, tru_d, ext_o, lsts_r, lsts_t, x_chain, in_ssF, in_ssT, in_t, in_r, in_o, inK_sF, inK_sT, flat_s, flat_i, List.all_cons, List.all_nil, Bool.and_true, Bool.true_and, rev_t, rev_r, sum_r, maxL_r, minL_r, any_r, all_r, inc_ii, x_aug, x_lc, x_lc2, lcEnd_f, lcEnd_t, x_yes, x_Sl, x_oN, x_oS, asI_i, sl_t, sl_r, cut1, js_nil, js_cons, add_or, x_raise, x_raiseI, rai_2, x_try, try_nx, try_rt, try_e0, try_e2, hot_bl, x_isx, isx_1, x_fld, fld_1, L_app, in_L, x_small, x_need, e1, d3, d5, d9, d, ↓e2, lit_q, a1, ↓a2]
  have e9 : decide (r = 9) = false := decide_eq_false q9
  by_cases q10 : r = 10
  · obtain ⟨x, S2, e2, t2⟩ := pickL_spec t1 (by omega) (l := List.range' 97 26) (by decide) (by decide)
    have lb : PySem.Str.ofString "bcdefghijklmnopqrst" = L (List.range' 98 19) := lit_L _ _ (by decide +kernel)
    have d : decide (r = 10) = true := decide_eq_true q10
    have a1 := fun S => add_L (a := [x]) (b := List.range' 98 19) (o := false) (S := S) (by simp)
    refine ⟨[x] ++ List.range' 98 19, S2, by simp, ?_, t2⟩
    simp only [m__law_piece, x_bnd, k_ok, k_exc, k_stuck, x_giv, x_fail, selM_t, selM_f, selS_t, selS_f, sK_ok, sK_exc, sK_stuck, x_seq, seq_nx, seq_bk, seq_ct, seq_rt, seq_exc, seq_stuck, x_ret, x_retN, x_exp, x_set, x_nil, x_brk, x_cnt, x_tgt, tK_ok, tK_stuck, x_asgK, x_asg, ifK_t, ifK_f, x_if, x_fgK, fK_bk, fK_rt, fK_exc, for_src, x_fpK, fpK_nx, fpK_ct, srcK_nil, srcK_rng, x_for, x_def, defK_rt, defK_nx, defK_exc, slot_some, x_slot, x_c, x_Nil, x_consK, x_cons, x_F, x_m2K, x_m2, x_m1, x_B, x_T, asB_bl, asT_bl, asT_int, asT_non, asT_tup, asT_rol, asT_frz, x_And, x_Or, andK_t, andK_f, orK_t, orK_f, x_Not, x_AndV, x_OrV, x_andVK, x_orVK, x_NotV, x_IfE, ifEK_t, ifEK_f, x_Tup, x_Lst, x_mkF, x_mkT, x_Call, add_ii, sub_ii, neg_i, cmp_ii, eq_ii, eq_bb, eq_ss, ne_ii, ne_ss, is_n, isnot_n, non_n, non_i, non_b, non_s, non_t, non_r, non_o, ix_t, ix_r, ix_f, lst_s, ix_oo, len_oo, srcL_oo, set_oo, setO_l, opt_s, len_t, len_r, len_f, abs_i, int_i, int_b, max_ii, min_ii, gcd_ii, list_f, list_r, list_t, tuple_r, tuple_t, x_It, x_Nm, x_Tp, x_gN, x_gC, x_iE, x_iF, srcL_f, srcL_r, srcT_t, srcS_s, x_Isi, isi_tt, isi_ti, isi_tn, isi_tb, isi_ts, isi_bt, isi_bi, isi_bn, isi_bb, isi_bs, isi_st, isi_si, isi_sn, isi_sb, isi_ss, isi_it, isi_ii, isi_in, isi_ib, isi_is, at0, at1, at2, at3, ix0, ix1, ix2, ix3, whC_t, whC_f, whK_nx, whK_ct, whK_bk, whK_rt, List.map_cons, List.map_nil, List.length_cons, List.length_nil, List.replicate_succ, List.replicate_zero, List.set_cons_zero, List.set_cons_succ, List.cons_append, List.nil_append, List.append_nil, Nat.reduceAdd, Nat.reduceSub, Nat.sub_zero, Nat.sub_self, Nat.zero_add, List.getElem?_cons_zero, List.getElem?_cons_succ, decide_true, decide_false, Bool.not_true, Bool.not_false, List.isEmpty_cons, List.isEmpty_nil, Nat.reduceLeDiff, Nat.reduceSucc, x_Me, x_meK, x_Me0, ty_ss, ty_lo, ty_ll, ty_dd, ty_lr, ap_o, up_l, pop_o, pop_l, asT_o, tru_l, tru_d, ext_o, lsts_r, lsts_t, x_chain, in_ssF, in_ssT, in_t, in_r, in_o, inK_sF, inK_sT, flat_s, flat_i, List.all_cons, List.all_nil, Bool.and_true, Bool.true_and, rev_t, rev_r, sum_r, maxL_r, minL_r, any_r, all_r, inc_ii, x_aug, x_lc, x_lc2, lcEnd_f, lcEnd_t, x_yes, x_Sl, x_oN, x_oS, asI_i, sl_t, sl_r, cut1, js_nil, js_cons, add_or, x_raise, x_raiseI, rai_2, x_try, try_nx, try_rt, try_e0, try_e2, hot_bl, x_isx, isx_1, x_fld, fld_1, L_app, in_L, x_small, x_need, e1, d3, d5, d9, e9, d, lt, ↓e2, lb, ↓a1]
  have e10 : decide (r = 10) = false := decide_eq_false q10
  obtain ⟨p, S2, pl, e2, t2⟩ := pickS_spec t1 (by omega) (xs := [" ", " ", "   "]) (n := 20) (by decide +kernel) (by decide) (by decide)
  simp only [List.map_cons, List.map_nil] at e2
  refine ⟨p, S2, by omega, ?_, t2⟩
  simp only [m__law_piece, x_bnd, k_ok, k_exc, k_stuck, x_giv, x_fail, selM_t, selM_f, selS_t, selS_f, sK_ok, sK_exc, sK_stuck, x_seq, seq_nx, seq_bk, seq_ct, seq_rt, seq_exc, seq_stuck, x_ret, x_retN, x_exp, x_set, x_nil, x_brk, x_cnt, x_tgt, tK_ok, tK_stuck, x_asgK, x_asg, ifK_t, ifK_f, x_if, x_fgK, fK_bk, fK_rt, fK_exc, for_src, x_fpK, fpK_nx, fpK_ct, srcK_nil, srcK_rng, x_for, x_def, defK_rt, defK_nx, defK_exc, slot_some, x_slot, x_c, x_Nil, x_consK, x_cons, x_F, x_m2K, x_m2, x_m1, x_B, x_T, asB_bl, asT_bl, asT_int, asT_non, asT_tup, asT_rol, asT_frz, x_And, x_Or, andK_t, andK_f, orK_t, orK_f, x_Not, x_AndV, x_OrV, x_andVK, x_orVK, x_NotV, x_IfE, ifEK_t, ifEK_f, x_Tup, x_Lst, x_mkF, x_mkT, x_Call, add_ii, sub_ii, neg_i, cmp_ii, eq_ii, eq_bb, eq_ss, ne_ii, ne_ss, is_n, isnot_n, non_n, non_i, non_b, non_s, non_t, non_r, non_o, ix_t, ix_r, ix_f, lst_s, ix_oo, len_oo, srcL_oo, set_oo, setO_l, opt_s, len_t, len_r, len_f, abs_i, int_i, int_b, max_ii, min_ii, gcd_ii, list_f, list_r, list_t, tuple_r, tuple_t, x_It, x_Nm, x_Tp, x_gN, x_gC, x_iE, x_iF, srcL_f, srcL_r, srcT_t, srcS_s, x_Isi, isi_tt, isi_ti, isi_tn, isi_tb, isi_ts, isi_bt, isi_bi, isi_bn, isi_bb, isi_bs, isi_st, isi_si, isi_sn, isi_sb, isi_ss, isi_it, isi_ii, isi_in, isi_ib, isi_is, at0, at1, at2, at3, ix0, ix1, ix2, ix3, whC_t, whC_f, whK_nx, whK_ct, whK_bk, whK_rt, List.map_cons, List.map_nil, List.length_cons, List.length_nil, List.replicate_succ, List.replicate_zero, List.set_cons_zero, List.set_cons_succ, List.cons_append, List.nil_append, List.append_nil, Nat.reduceAdd, Nat.reduceSub, Nat.sub_zero, Nat.sub_self, Nat.zero_add, List.getElem?_cons_zero, List.getElem?_cons_succ, decide_true, decide_false, Bool.not_true, Bool.not_false, List.isEmpty_cons, List.isEmpty_nil, Nat.reduceLeDiff, Nat.reduceSucc, x_Me, x_meK, x_Me0, ty_ss, ty_lo, ty_ll, ty_dd, ty_lr, ap_o, up_l, pop_o, pop_l, asT_o, tru_l, tru_d, ext_o, lsts_r, lsts_t, x_chain, in_ssF, in_ssT, in_t, in_r, in_o, inK_sF, inK_sT, flat_s, flat_i, List.all_cons, List.all_nil, Bool.and_true, Bool.true_and, rev_t, rev_r, sum_r, maxL_r, minL_r, any_r, all_r, inc_ii, x_aug, x_lc, x_lc2, lcEnd_f, lcEnd_t, x_yes, x_Sl, x_oN, x_oS, asI_i, sl_t, sl_r, cut1, js_nil, js_cons, add_or, x_raise, x_raiseI, rai_2, x_try, try_nx, try_rt, try_e0, try_e2, hot_bl, x_isx, isx_1, x_fld, fld_1, L_app, in_L, x_small, x_need, e1, d3, d5, d9, e9, e10, ↓e2]
/-- the signs of a text, as a list -/
theorem comp_signs {ok : Store → Prop} {S : Store} (hok : ok S) (o0 o1 o2 o3 : Option D) : ∀ (ds acc : List D), acc.length + ds.length ≤ 1000 → compT ok (turn1 [3] (gNm 3) mYes (mSlot 3) [o0, o1, o2, o3]) ds acc S = some (acc ++ ds, S)
  | [], acc, _ => by rw [compT_nil hok, List.append_nil]
  | d :: ds, acc, h => by
    have hl : acc.length < sizeLine := Nat.lt_of_lt_of_le (show acc.length < 1001 by simp at h; omega) (lnle (by omega))
    have t : turn1 [3] (gNm 3) mYes (mSlot 3) [o0, o1, o2, o3] d acc S = some (acc ++ [d], S) := by
      show addC acc d S = _
      exact if_pos hl
    rw [compT_cons hok t, comp_signs hok o0 o1 o2 o3 ds (acc ++ [d]) (by simp at h ⊢; omega)]
    simp
theorem flaw_spec (h : Tape cells c T S) (hc : c < 2 ^ 59) : ∃ (p : List Nat) (S' : Store), p.length ≤ 23 ∧ m__law_flaw [.obj 0] S = .ok (.str (L p)) S' ∧ Tape cells (c + 2) T S' := by
  obtain ⟨sg, hsg⟩ : ∃ sg, (PySem.Str.ofString ".!_#&':;?@]^{}~`|$\\").cps.toList = sg := ⟨_, rfl⟩
  have ls : PySem.Str.ofString ".!_#&':;?@]^{}~`|$\\" = L sg := lit_L _ _ hsg
  have sl : sg.length = 19 := by rw [← hsg]; decide +kernel
  have lc : ∀ S, mLc false [3] (iE srcS (mC (.str (L sg)))) (gNm 3) mYes (mSlot 3) [some (.obj 0), some (.rol ((["1234567890", "123456789.0", "0.000000001", "abcdefghijklmnopqrstu", "\"\"", "\"", "[", "[-1", "[-1 ]"] : List Str).map fun x => D.str x)), none, none] S = .ok (.rol (sg.map fun x => D.str (L [x]))) S := fun S => by
    rw [x_lc, x_iE, x_c, k_ok, src_L]
    have := comp_signs (ok := (Src.mk (sg.map fun c => D.str (L [c])) []).ok) (S := S) ok_nil (some (.obj 0)) (some (.rol ((["1234567890", "123456789.0", "0.000000001", "abcdefghijklmnopqrstu", "\"\"", "\"", "[", "[-1", "[-1 ]"] : List Str).map fun x => D.str x))) none none (sg.map fun c => D.str (L [c])) [] (by simp; omega)
    rw [k_ok, this]
    rfl
  obtain ⟨x, S1, e1, t1⟩ : ∃ (x : Nat) (S1 : Store), m__law_pick [.obj 0, .rol (sg.map fun x => D.str (L [x]))] S = .ok (.str (L [x])) S1 ∧ Tape cells (c + 1) T S1 := by
    obtain ⟨i, hi, S', e, ht⟩ := pick_spec h (by omega) (ds := sg.map fun x => D.str (L [x])) (by simp; omega) (by rw [List.length_map]; omega)
    rw [List.getElem_map] at e
    exact ⟨_, S', e, ht⟩
  obtain ⟨p, S2, pl, e2, t2⟩ := pickS_spec t1 (by omega) (xs := ["1234567890", "123456789.0", "0.000000001", "abcdefghijklmnopqrstu", "\"\"", "\"", "[", "[-1", "[-1 ]", "abcdefghijklmnopqrstu", "\"abcdefghijklmnopqrstu\"", "\"abcdefghijklmnopqrstu\"", L [x], L [x], L [x], L [x]]) (n := 23) (by
    intro y hy
    simp only [List.mem_cons, List.not_mem_nil, or_false] at hy
    rcases hy with rfl | rfl | rfl | rfl | rfl | rfl | rfl | rfl | rfl | rfl | rfl | rfl | rfl | rfl | rfl | rfl
    all_goals first | (apply slen; decide +kernel) | (rw [L_len]; simp)) (by simp) (by simp)
  have add : ∀ (a b : List D) S, a.length + b.length ≤ 1000 → dAdd false (.rol a) (.rol b) S = .ok (.rol (a ++ b)) S := fun a b S h => add_rr h
  have a1 := fun S => add ((["1234567890", "123456789.0", "0.000000001", "abcdefghijklmnopqrstu", "\"\"", "\"", "[", "[-1", "[-1 ]"] : List Str).map fun x => D.str x) ((["abcdefghijklmnopqrstu", "\"abcdefghijklmnopqrstu\"", "\"abcdefghijklmnopqrstu\""] : List Str).map fun x => D.str x) S (by decide)
  have a2 := fun S => add ((["1234567890", "123456789.0", "0.000000001", "abcdefghijklmnopqrstu", "\"\"", "\"", "[", "[-1", "[-1 ]", "abcdefghijklmnopqrstu", "\"abcdefghijklmnopqrstu\"", "\"abcdefghijklmnopqrstu\""] : List Str).map fun x => D.str x) [.str (L [x]), .str (L [x]), .str (L [x]), .str (L [x])] S (by simp)
  have mu : ∀ S, dMulS (.rol [.str (L [x])]) (.int 4) S = .ok (.rol [.str (L [x]), .str (L [x]), .str (L [x]), .str (L [x])]) S := fun S => by
    have c : (0 : Int) ≤ 4 ∧ (4 : Int) < 2 ^ 31 ∧ [D.str (L [x])].length * (4 : Int).toNat ≤ sizeLine := ⟨by decide, by decide, lnle (by simp)⟩
    have e : need ((0 : Int) ≤ 4 ∧ (4 : Int) < 2 ^ 31 ∧ [D.str (L [x])].length * (4 : Int).toNat ≤ sizeLine) (mkL false (List.replicate (4 : Int).toNat [D.str (L [x])]).flatten) S = mkL false (List.replicate (4 : Int).toNat [D.str (L [x])]).flatten S := x_need c
    exact e
  simp only [List.map_cons, List.map_nil, List.cons_append, List.nil_append] at e2 a1 a2 lc
  refine ⟨p, S2, pl, ?_, t2⟩
  simp only [m__law_flaw, x_bnd, k_ok, k_exc, k_stuck, x_giv, x_fail, selM_t, selM_f, selS_t, selS_f, sK_ok, sK_exc, sK_stuck, x_seq, seq_nx, seq_bk, seq_ct, seq_rt, seq_exc, seq_stuck, x_ret, x_retN, x_exp, x_set, x_nil, x_brk, x_cnt, x_tgt, tK_ok, tK_stuck, x_asgK, x_asg, ifK_t, ifK_f, x_if, x_fgK, fK_bk, fK_rt, fK_exc, for_src, x_fpK, fpK_nx, fpK_ct, srcK_nil, srcK_rng, x_for, x_def, defK_rt, defK_nx, defK_exc, slot_some, x_slot, x_c, x_Nil, x_consK, x_cons, x_F, x_m2K, x_m2, x_m1, x_B, x_T, asB_bl, asT_bl, asT_int, asT_non, asT_tup, asT_rol, asT_frz, x_And, x_Or, andK_t, andK_f, orK_t, orK_f, x_Not, x_AndV, x_OrV, x_andVK, x_orVK, x_NotV, x_IfE, ifEK_t, ifEK_f, x_Tup, x_Lst, x_mkF, x_mkT, x_Call, add_ii, sub_ii, neg_i, cmp_ii, eq_ii, eq_bb, eq_ss, ne_ii, ne_ss, is_n, isnot_n, non_n, non_i, non_b, non_s, non_t, non_r, non_o, ix_t, ix_r, ix_f, lst_s, ix_oo, len_oo, srcL_oo, set_oo, setO_l, opt_s, len_t, len_r, len_f, abs_i, int_i, int_b, max_ii, min_ii, gcd_ii, list_f, list_r, list_t, tuple_r, tuple_t, x_It, x_Nm, x_Tp, x_gN, x_gC, x_iE, x_iF, srcL_f, srcL_r, srcT_t, srcS_s, x_Isi, isi_tt, isi_ti, isi_tn, isi_tb, isi_ts, isi_bt, isi_bi, isi_bn, isi_bb, isi_bs, isi_st, isi_si, isi_sn, isi_sb, isi_ss, isi_it, isi_ii, isi_in, isi_ib, isi_is, at0, at1, at2, at3, ix0, ix1, ix2, ix3, whC_t, whC_f, whK_nx, whK_ct, whK_bk, whK_rt, List.map_cons, List.map_nil, List.length_cons, List.length_nil, List.replicate_succ, List.replicate_zero, List.set_cons_zero, List.set_cons_succ, List.cons_append, List.nil_append, List.append_nil, Nat.reduceAdd, Nat.reduceSub, Nat.sub_zero, Nat.sub_self, Nat.zero_add, List.getElem?_cons_zero, List.getElem?_cons_succ, decide_true, decide_false, Bool.not_true, Bool.not_false, List.isEmpty_cons, List.isEmpty_nil, Nat.reduceLeDiff, Nat.reduceSucc, x_Me, x_meK, x_Me0, ty_ss, ty_lo, ty_ll, ty_dd, ty_lr, ap_o, up_l, pop_o, pop_l, asT_o, tru_l, tru_d, ext_o, lsts_r, lsts_t, x_chain, in_ssF, in_ssT, in_t, in_r, in_o, inK_sF, inK_sT, flat_s, flat_i, List.all_cons, List.all_nil, Bool.and_true, Bool.true_and, rev_t, rev_r, sum_r, maxL_r, minL_r, any_r, all_r, inc_ii, x_aug, x_lc, x_lc2, lcEnd_f, lcEnd_t, x_yes, x_Sl, x_oN, x_oS, asI_i, sl_t, sl_r, cut1, js_nil, js_cons, add_or, x_raise, x_raiseI, rai_2, x_try, try_nx, try_rt, try_e0, try_e2, hot_bl, x_isx, isx_1, x_fld, fld_1, L_app, in_L, x_small, x_need, ls, ↓lc, e1, mu, a1, a2, ↓e2]
end
end K09

set_option Elab.async false
set_option linter.all false
set_option maxHeartbeats 4000000
set_option maxRecDepth 100000
set_option exponentiation.threshold 10000
namespace K09
open PySem PySem.Spec PyProof.Rows L2 Py
section
variable {cells : List Int} {c : Nat} {T S : Store}
/-- a text of n drawn pieces -/
theorem pieces_loop (h : Tape cells c T S) (hc : c < 2 ^ 50) (n : Nat) (hn : n < 31) (o0 o2 o3 o4 o5 o7 : Option D) : ∃ (l : List Nat) (o7' : Option D) (S' : Store), l.length ≤ 23 * n ∧
    forP (gNm 7) L_law_1 ((List.range ((n : Int) - 0).toNat).map fun (j : Nat) => .int (0 + (j : Int))) [o0, some (.obj 0), o2, o3, o4, o5, some (.str (L [])), o7] S = .nx [o0, some (.obj 0), o2, o3, o4, o5, some (.str (L l)), o7'] S' ∧ Tape cells (c + 3 * n) T S' := by
  obtain ⟨env', S', e, l, o, rfl, hl, ht⟩ := for_range (b := L_law_1) (t := 7) (n := n) (z := (n : Int)) rfl (fun i env S => ∃ (l : List Nat) (o : Option D), env = [o0, some (.obj 0), o2, o3, o4, o5, some (.str (L l)), o] ∧ l.length ≤ 23 * i ∧ Tape cells (c + 3 * i) T S)
    (fun i env S hi ⟨l, o, he, hl, ht⟩ => by
      subst he
      obtain ⟨p, S1, pl, e1, t1⟩ := piece_spec ht (by omega)
      obtain ⟨b, S2, bl, e2, t2⟩ := pickS_spec t1 (by omega) (xs := ["", "", " "]) (n := 1) (by decide +kernel) (by decide) (by decide)
      simp only [List.map_cons, List.map_nil] at e2
      have a1 := fun S => add_L (a := l) (b := p) (o := false) (S := S) (by omega)
      have a2 := fun S => add_L (a := l ++ p) (b := b) (o := false) (S := S) (by rw [List.length_append]; omega)
      refine ⟨[o0, some (.obj 0), o2, o3, o4, o5, some (.str (L (l ++ p ++ b))), some (.int i)], S2, ?_, l ++ p ++ b, _, rfl, by rw [List.length_append, List.length_append]; omega, t2.mono (by omega)⟩
      simp only [L_law_1, x_bnd, k_ok, k_exc, k_stuck, x_giv, x_fail, selM_t, selM_f, selS_t, selS_f, sK_ok, sK_exc, sK_stuck, x_seq, seq_nx, seq_bk, seq_ct, seq_rt, seq_exc, seq_stuck, x_ret, x_retN, x_exp, x_set, x_nil, x_brk, x_cnt, x_tgt, tK_ok, tK_stuck, x_asgK, x_asg, ifK_t, ifK_f, x_if, x_fgK, fK_bk, fK_rt, fK_exc, for_src, x_fpK, fpK_nx, fpK_ct, srcK_nil, srcK_rng, x_for, x_def, defK_rt, defK_nx, defK_exc, slot_some, x_slot, x_c, x_Nil, x_consK, x_cons, x_F, x_m2K, x_m2, x_m1, x_B, x_T, asB_bl, asT_bl, asT_int, asT_non, asT_tup, asT_rol, asT_frz, x_And, x_Or, andK_t, andK_f, orK_t, orK_f, x_Not, x_AndV, x_OrV, x_andVK, x_orVK, x_NotV, x_IfE, ifEK_t, ifEK_f, x_Tup, x_Lst, x_mkF, x_mkT, x_Call, add_ii, sub_ii, neg_i, cmp_ii, eq_ii, eq_bb, eq_ss, ne_ii, ne_ss, is_n, isnot_n, non_n, non_i, non_b, non_s, non_t, non_r, non_o, ix_t, ix_r, ix_f, lst_s, ix_oo, len_oo, srcL_oo, set_oo, setO_l, opt_s, len_t, len_r, len_f, abs_i, int_i, int_b, max_ii, min_ii, gcd_ii, list_f, list_r, list_t, tuple_r, tuple_t, x_It, x_Nm, x_Tp, x_gN, x_gC, x_iE, x_iF, srcL_f, srcL_r, srcT_t, srcS_s, x_Isi, isi_tt, isi_ti, isi_tn, isi_tb, isi_ts, isi_bt, isi_bi, isi_bn, isi_bb, isi_bs, isi_st, isi_si, isi_sn, isi_sb, isi_ss, isi_it, isi_ii, isi_in, isi_ib, isi_is, at0, at1, at2, at3, ix0, ix1, ix2, ix3, whC_t, whC_f, whK_nx, whK_ct, whK_bk, whK_rt, List.map_cons, List.map_nil, List.length_cons, List.length_nil, List.replicate_succ, List.replicate_zero, List.set_cons_zero, List.set_cons_succ, List.cons_append, List.nil_append, List.append_nil, Nat.reduceAdd, Nat.reduceSub, Nat.sub_zero, Nat.sub_self, Nat.zero_add, List.getElem?_cons_zero, List.getElem?_cons_succ, decide_true, decide_false, Bool.not_true, Bool.not_false, List.isEmpty_cons, List.isEmpty_nil, Nat.reduceLeDiff, Nat.reduceSucc, x_Me, x_meK, x_Me0, ty_ss, ty_lo, ty_ll, ty_dd, ty_lr, ap_o, up_l, pop_o, pop_l, asT_o, tru_l, tru_d, ext_o, lsts_r, lsts_t, x_chain, in_ssF, in_ssT, in_t, in_r, in_o, inK_sF, inK_sT, flat_s, flat_i, List.all_cons, List.all_nil, Bool.and_true, Bool.true_and, rev_t, rev_r, sum_r, maxL_r, minL_r, any_r, all_r, inc_ii, x_aug, x_lc, x_lc2, lcEnd_f, lcEnd_t, x_yes, x_Sl, x_oN, x_oS, asI_i, sl_t, sl_r, cut1, js_nil, js_cons, add_or, x_raise, x_raiseI, rai_2, x_try, try_nx, try_rt, try_e0, try_e2, hot_bl, x_isx, isx_1, x_fld, fld_1, L_app, in_L, x_small, x_need, e1, a1, ↓e2, ↓a2]) (env := [o0, some (.obj 0), o2, o3, o4, o5, some (.str (L [])), o7]) (S := S) ⟨[], o7, rfl, by simp, h⟩
  exact ⟨l, o, S', hl, e, ht⟩
theorem Tape.two (h : Tape cells c T S) (o1 o2 : Ob) : Tape cells c (T ++ [o1, o2]) (S ++ [o1, o2]) := by
  have := (h.snoc o1).snoc o2
  rw [List.append_assoc, List.append_assoc] at this
  exact this
/-- one of the two texts -/
theorem body2 {ts : List D} {R : Store} (h : Tape cells c (.lst ts :: R) S) (hc : c < 2 ^ 49) (hts : ts.length < 1000) (o0 o3 o4 o5 o6 o7 : Option D) : ∃ (l : List Nat) (o5' o7' : Option D) (S' R' : Store), l.length ≤ 3000 ∧
    L_law_2 [o0, some (.obj 0), some (.obj 1), o3, o4, o5, o6, o7] S = .nx [o0, some (.obj 0), some (.obj 1), o3, o4, o5', some (.str (L l)), o7'] S' ∧ Tape cells (c + 200) (.lst (ts ++ [.str (L l)]) :: R') S' := by
  obtain ⟨n, S1, e1, t1, n0, n1⟩ := draw_spec h (by omega) (m := 31) (by decide)
  have n1 : n < 31 := n1
  obtain ⟨n, rfl⟩ : ∃ m : Nat, n = (m : Int) := ⟨n.toNat, by omega⟩
  have rg : ∀ S, rng1 [.int (n : Int)] S = .ok (srcR 0 (n : Int)) S := fun S => rng1_i (by omega)
  obtain ⟨l, p7, S2, ll, e2, t2⟩ := pieces_loop t1 (by omega) n (by omega) o0 (some (.obj 1)) o3 o4 o5 o7
  have ln := fun S => len_L (l := l) (S := S) (by omega)
  obtain ⟨a, S3, e3, t3, a0, a1⟩ := draw_spec t2 (by omega) (m := (l.length : Int) + 1) (by omega)
  obtain ⟨x, xl, ex⟩ := sl_any l none (some a) (by omega)
  obtain ⟨y, yl, ey⟩ := sl_any l (some a) none (by omega)
  obtain ⟨fl, S4, fll, e4, t4⟩ := flaw_spec t3 (by omega)
  obtain ⟨d, S5, e5, t5, d0, d1⟩ := draw_spec t4 (by omega) (m := 3) (by decide)
  have d1 : d < 3 := d1
  obtain ⟨w, wl, ew⟩ : ∃ w : List Nat, w.length ≤ 23 ∧ ∀ S, dIx (.rol [.str (L fl), .str (L []), .str (L [])]) (.int d) S = .ok (.str (L w)) S := by
    rcases (by omega : d = 0 ∨ d = 1 ∨ d = 2) with rfl | rfl | rfl
    · exact ⟨fl, by omega, fun S => rfl⟩
    · exact ⟨[], by simp, fun S => rfl⟩
    · exact ⟨[], by simp, fun S => rfl⟩
  have j1 := fun S => add_L (a := x) (b := w) (o := false) (S := S) (by omega)
  have j2 := fun S => add_L (a := x ++ w) (b := y) (o := false) (S := S) (by rw [List.length_append]; omega)
  have tl : (x ++ w ++ y).length ≤ 3000 := by rw [List.length_append, List.length_append]; omega
  obtain ⟨o1, o2, al⟩ := alike_u (l := x ++ w ++ y) (by omega)
  have t6 := Tape.two t5 o1 o2
  have g : (S5 ++ [o1, o2])[1]? = some (.lst ts) := t6.get 0
  have t7 := t6.set 0 (.lst (ts ++ [.str (L (x ++ w ++ y))]))
  have hneed : ts.length < sizeLine := Nat.lt_of_lt_of_le (show ts.length < 1001 by omega) (lnle (by omega))
  refine ⟨x ++ w ++ y, some (.int a), p7, (S5 ++ [o1, o2]).set 1 (.lst (ts ++ [.str (L (x ++ w ++ y))])), R ++ [o1, o2], tl, ?_, t7.mono (by omega)⟩
  unfold L_law_2
  refine goE (e := [o0, some (.obj 0), some (.obj 1), o3, o4, o5, some (.str (L [])), o7]) (s := S) (by simp only [x_bnd, k_ok, k_exc, k_stuck, x_giv, x_fail, selM_t, selM_f, selS_t, selS_f, sK_ok, sK_exc, sK_stuck, x_seq, seq_nx, seq_bk, seq_ct, seq_rt, seq_exc, seq_stuck, x_ret, x_retN, x_exp, x_set, x_nil, x_brk, x_cnt, x_tgt, tK_ok, tK_stuck, x_asgK, x_asg, ifK_t, ifK_f, x_if, x_fgK, fK_bk, fK_rt, fK_exc, for_src, x_fpK, fpK_nx, fpK_ct, srcK_nil, srcK_rng, x_for, x_def, defK_rt, defK_nx, defK_exc, slot_some, x_slot, x_c, x_Nil, x_consK, x_cons, x_F, x_m2K, x_m2, x_m1, x_B, x_T, asB_bl, asT_bl, asT_int, asT_non, asT_tup, asT_rol, asT_frz, x_And, x_Or, andK_t, andK_f, orK_t, orK_f, x_Not, x_AndV, x_OrV, x_andVK, x_orVK, x_NotV, x_IfE, ifEK_t, ifEK_f, x_Tup, x_Lst, x_mkF, x_mkT, x_Call, add_ii, sub_ii, neg_i, cmp_ii, eq_ii, eq_bb, eq_ss, ne_ii, ne_ss, is_n, isnot_n, non_n, non_i, non_b, non_s, non_t, non_r, non_o, ix_t, ix_r, ix_f, lst_s, ix_oo, len_oo, srcL_oo, set_oo, setO_l, opt_s, len_t, len_r, len_f, abs_i, int_i, int_b, max_ii, min_ii, gcd_ii, list_f, list_r, list_t, tuple_r, tuple_t, x_It, x_Nm, x_Tp, x_gN, x_gC, x_iE, x_iF, srcL_f, srcL_r, srcT_t, srcS_s, x_Isi, isi_tt, isi_ti, isi_tn, isi_tb, isi_ts, isi_bt, isi_bi, isi_bn, isi_bb, isi_bs, isi_st, isi_si, isi_sn, isi_sb, isi_ss, isi_it, isi_ii, isi_in, isi_ib, isi_is, at0, at1, at2, at3, ix0, ix1, ix2, ix3, whC_t, whC_f, whK_nx, whK_ct, whK_bk, whK_rt, List.map_cons, List.map_nil, List.length_cons, List.length_nil, List.replicate_succ, List.replicate_zero, List.set_cons_zero, List.set_cons_succ, List.cons_append, List.nil_append, List.append_nil, Nat.reduceAdd, Nat.reduceSub, Nat.sub_zero, Nat.sub_self, Nat.zero_add, List.getElem?_cons_zero, List.getElem?_cons_succ, decide_true, decide_false, Bool.not_true, Bool.not_false, List.isEmpty_cons, List.isEmpty_nil, Nat.reduceLeDiff, Nat.reduceSucc, x_Me, x_meK, x_Me0, ty_ss, ty_lo, ty_ll, ty_dd, ty_lr, ap_o, up_l, pop_o, pop_l, asT_o, tru_l, tru_d, ext_o, lsts_r, lsts_t, x_chain, in_ssF, in_ssT, in_t, in_r, in_o, inK_sF, inK_sT, flat_s, flat_i, List.all_cons, List.all_nil, Bool.and_true, Bool.true_and, rev_t, rev_r, sum_r, maxL_r, minL_r, any_r, all_r, inc_ii, x_aug, x_lc, x_lc2, lcEnd_f, lcEnd_t, x_yes, x_Sl, x_oN, x_oS, asI_i, sl_t, sl_r, cut1, js_nil, js_cons, add_or, x_raise, x_raiseI, rai_2, x_try, try_nx, try_rt, try_e0, try_e2, hot_bl, x_isx, isx_1, x_fld, fld_1, L_app, in_L, lit_e]) ?_
  refine goE (e := [o0, some (.obj 0), some (.obj 1), o3, o4, o5, some (.str (L l)), p7]) (s := S2) (by simp only [x_bnd, k_ok, k_exc, k_stuck, x_giv, x_fail, selM_t, selM_f, selS_t, selS_f, sK_ok, sK_exc, sK_stuck, x_seq, seq_nx, seq_bk, seq_ct, seq_rt, seq_exc, seq_stuck, x_ret, x_retN, x_exp, x_set, x_nil, x_brk, x_cnt, x_tgt, tK_ok, tK_stuck, x_asgK, x_asg, ifK_t, ifK_f, x_if, x_fgK, fK_bk, fK_rt, fK_exc, for_src, x_fpK, fpK_nx, fpK_ct, srcK_nil, srcK_rng, x_for, x_def, defK_rt, defK_nx, defK_exc, slot_some, x_slot, x_c, x_Nil, x_consK, x_cons, x_F, x_m2K, x_m2, x_m1, x_B, x_T, asB_bl, asT_bl, asT_int, asT_non, asT_tup, asT_rol, asT_frz, x_And, x_Or, andK_t, andK_f, orK_t, orK_f, x_Not, x_AndV, x_OrV, x_andVK, x_orVK, x_NotV, x_IfE, ifEK_t, ifEK_f, x_Tup, x_Lst, x_mkF, x_mkT, x_Call, add_ii, sub_ii, neg_i, cmp_ii, eq_ii, eq_bb, eq_ss, ne_ii, ne_ss, is_n, isnot_n, non_n, non_i, non_b, non_s, non_t, non_r, non_o, ix_t, ix_r, ix_f, lst_s, ix_oo, len_oo, srcL_oo, set_oo, setO_l, opt_s, len_t, len_r, len_f, abs_i, int_i, int_b, max_ii, min_ii, gcd_ii, list_f, list_r, list_t, tuple_r, tuple_t, x_It, x_Nm, x_Tp, x_gN, x_gC, x_iE, x_iF, srcL_f, srcL_r, srcT_t, srcS_s, x_Isi, isi_tt, isi_ti, isi_tn, isi_tb, isi_ts, isi_bt, isi_bi, isi_bn, isi_bb, isi_bs, isi_st, isi_si, isi_sn, isi_sb, isi_ss, isi_it, isi_ii, isi_in, isi_ib, isi_is, at0, at1, at2, at3, ix0, ix1, ix2, ix3, whC_t, whC_f, whK_nx, whK_ct, whK_bk, whK_rt, List.map_cons, List.map_nil, List.length_cons, List.length_nil, List.replicate_succ, List.replicate_zero, List.set_cons_zero, List.set_cons_succ, List.cons_append, List.nil_append, List.append_nil, Nat.reduceAdd, Nat.reduceSub, Nat.sub_zero, Nat.sub_self, Nat.zero_add, List.getElem?_cons_zero, List.getElem?_cons_succ, decide_true, decide_false, Bool.not_true, Bool.not_false, List.isEmpty_cons, List.isEmpty_nil, Nat.reduceLeDiff, Nat.reduceSucc, x_Me, x_meK, x_Me0, ty_ss, ty_lo, ty_ll, ty_dd, ty_lr, ap_o, up_l, pop_o, pop_l, asT_o, tru_l, tru_d, ext_o, lsts_r, lsts_t, x_chain, in_ssF, in_ssT, in_t, in_r, in_o, inK_sF, inK_sT, flat_s, flat_i, List.all_cons, List.all_nil, Bool.and_true, Bool.true_and, rev_t, rev_r, sum_r, maxL_r, minL_r, any_r, all_r, inc_ii, x_aug, x_lc, x_lc2, lcEnd_f, lcEnd_t, x_yes, x_Sl, x_oN, x_oS, asI_i, sl_t, sl_r, cut1, js_nil, js_cons, add_or, x_raise, x_raiseI, rai_2, x_try, try_nx, try_rt, try_e0, try_e2, hot_bl, x_isx, isx_1, x_fld, fld_1, L_app, in_L, x_small, x_need, e1, rg, ↓e2]) ?_
  refine goE (e := [o0, some (.obj 0), some (.obj 1), o3, o4, some (.int a), some (.str (L l)), p7]) (s := S3) (by simp only [x_bnd, k_ok, k_exc, k_stuck, x_giv, x_fail, selM_t, selM_f, selS_t, selS_f, sK_ok, sK_exc, sK_stuck, x_seq, seq_nx, seq_bk, seq_ct, seq_rt, seq_exc, seq_stuck, x_ret, x_retN, x_exp, x_set, x_nil, x_brk, x_cnt, x_tgt, tK_ok, tK_stuck, x_asgK, x_asg, ifK_t, ifK_f, x_if, x_fgK, fK_bk, fK_rt, fK_exc, for_src, x_fpK, fpK_nx, fpK_ct, srcK_nil, srcK_rng, x_for, x_def, defK_rt, defK_nx, defK_exc, slot_some, x_slot, x_c, x_Nil, x_consK, x_cons, x_F, x_m2K, x_m2, x_m1, x_B, x_T, asB_bl, asT_bl, asT_int, asT_non, asT_tup, asT_rol, asT_frz, x_And, x_Or, andK_t, andK_f, orK_t, orK_f, x_Not, x_AndV, x_OrV, x_andVK, x_orVK, x_NotV, x_IfE, ifEK_t, ifEK_f, x_Tup, x_Lst, x_mkF, x_mkT, x_Call, add_ii, sub_ii, neg_i, cmp_ii, eq_ii, eq_bb, eq_ss, ne_ii, ne_ss, is_n, isnot_n, non_n, non_i, non_b, non_s, non_t, non_r, non_o, ix_t, ix_r, ix_f, lst_s, ix_oo, len_oo, srcL_oo, set_oo, setO_l, opt_s, len_t, len_r, len_f, abs_i, int_i, int_b, max_ii, min_ii, gcd_ii, list_f, list_r, list_t, tuple_r, tuple_t, x_It, x_Nm, x_Tp, x_gN, x_gC, x_iE, x_iF, srcL_f, srcL_r, srcT_t, srcS_s, x_Isi, isi_tt, isi_ti, isi_tn, isi_tb, isi_ts, isi_bt, isi_bi, isi_bn, isi_bb, isi_bs, isi_st, isi_si, isi_sn, isi_sb, isi_ss, isi_it, isi_ii, isi_in, isi_ib, isi_is, at0, at1, at2, at3, ix0, ix1, ix2, ix3, whC_t, whC_f, whK_nx, whK_ct, whK_bk, whK_rt, List.map_cons, List.map_nil, List.length_cons, List.length_nil, List.replicate_succ, List.replicate_zero, List.set_cons_zero, List.set_cons_succ, List.cons_append, List.nil_append, List.append_nil, Nat.reduceAdd, Nat.reduceSub, Nat.sub_zero, Nat.sub_self, Nat.zero_add, List.getElem?_cons_zero, List.getElem?_cons_succ, decide_true, decide_false, Bool.not_true, Bool.not_false, List.isEmpty_cons, List.isEmpty_nil, Nat.reduceLeDiff, Nat.reduceSucc, x_Me, x_meK, x_Me0, ty_ss, ty_lo, ty_ll, ty_dd, ty_lr, ap_o, up_l, pop_o, pop_l, asT_o, tru_l, tru_d, ext_o, lsts_r, lsts_t, x_chain, in_ssF, in_ssT, in_t, in_r, in_o, inK_sF, inK_sT, flat_s, flat_i, List.all_cons, List.all_nil, Bool.and_true, Bool.true_and, rev_t, rev_r, sum_r, maxL_r, minL_r, any_r, all_r, inc_ii, x_aug, x_lc, x_lc2, lcEnd_f, lcEnd_t, x_yes, x_Sl, x_oN, x_oS, asI_i, sl_t, sl_r, cut1, js_nil, js_cons, add_or, x_raise, x_raiseI, rai_2, x_try, try_nx, try_rt, try_e0, try_e2, hot_bl, x_isx, isx_1, x_fld, fld_1, L_app, in_L, x_small, x_need, ln, e3]) ?_
  refine goE (e := [o0, some (.obj 0), some (.obj 1), o3, o4, some (.int a), some (.str (L (x ++ w ++ y))), p7]) (s := S5) (by simp only [x_bnd, k_ok, k_exc, k_stuck, x_giv, x_fail, selM_t, selM_f, selS_t, selS_f, sK_ok, sK_exc, sK_stuck, x_seq, seq_nx, seq_bk, seq_ct, seq_rt, seq_exc, seq_stuck, x_ret, x_retN, x_exp, x_set, x_nil, x_brk, x_cnt, x_tgt, tK_ok, tK_stuck, x_asgK, x_asg, ifK_t, ifK_f, x_if, x_fgK, fK_bk, fK_rt, fK_exc, for_src, x_fpK, fpK_nx, fpK_ct, srcK_nil, srcK_rng, x_for, x_def, defK_rt, defK_nx, defK_exc, slot_some, x_slot, x_c, x_Nil, x_consK, x_cons, x_F, x_m2K, x_m2, x_m1, x_B, x_T, asB_bl, asT_bl, asT_int, asT_non, asT_tup, asT_rol, asT_frz, x_And, x_Or, andK_t, andK_f, orK_t, orK_f, x_Not, x_AndV, x_OrV, x_andVK, x_orVK, x_NotV, x_IfE, ifEK_t, ifEK_f, x_Tup, x_Lst, x_mkF, x_mkT, x_Call, add_ii, sub_ii, neg_i, cmp_ii, eq_ii, eq_bb, eq_ss, ne_ii, ne_ss, is_n, isnot_n, non_n, non_i, non_b, non_s, non_t, non_r, non_o, ix_t, ix_r, ix_f, lst_s, ix_oo, len_oo, srcL_oo, set_oo, setO_l, opt_s, len_t, len_r, len_f, abs_i, int_i, int_b, max_ii, min_ii, gcd_ii, list_f, list_r, list_t, tuple_r, tuple_t, x_It, x_Nm, x_Tp, x_gN, x_gC, x_iE, x_iF, srcL_f, srcL_r, srcT_t, srcS_s, x_Isi, isi_tt, isi_ti, isi_tn, isi_tb, isi_ts, isi_bt, isi_bi, isi_bn, isi_bb, isi_bs, isi_st, isi_si, isi_sn, isi_sb, isi_ss, isi_it, isi_ii, isi_in, isi_ib, isi_is, at0, at1, at2, at3, ix0, ix1, ix2, ix3, whC_t, whC_f, whK_nx, whK_ct, whK_bk, whK_rt, List.map_cons, List.map_nil, List.length_cons, List.length_nil, List.replicate_succ, List.replicate_zero, List.set_cons_zero, List.set_cons_succ, List.cons_append, List.nil_append, List.append_nil, Nat.reduceAdd, Nat.reduceSub, Nat.sub_zero, Nat.sub_self, Nat.zero_add, List.getElem?_cons_zero, List.getElem?_cons_succ, decide_true, decide_false, Bool.not_true, Bool.not_false, List.isEmpty_cons, List.isEmpty_nil, Nat.reduceLeDiff, Nat.reduceSucc, x_Me, x_meK, x_Me0, ty_ss, ty_lo, ty_ll, ty_dd, ty_lr, ap_o, up_l, pop_o, pop_l, asT_o, tru_l, tru_d, ext_o, lsts_r, lsts_t, x_chain, in_ssF, in_ssT, in_t, in_r, in_o, inK_sF, inK_sT, flat_s, flat_i, List.all_cons, List.all_nil, Bool.and_true, Bool.true_and, rev_t, rev_r, sum_r, maxL_r, minL_r, any_r, all_r, inc_ii, x_aug, x_lc, x_lc2, lcEnd_f, lcEnd_t, x_yes, x_Sl, x_oN, x_oS, asI_i, sl_t, sl_r, cut1, js_nil, js_cons, add_or, x_raise, x_raiseI, rai_2, x_try, try_nx, try_rt, try_e0, try_e2, hot_bl, x_isx, isx_1, x_fld, fld_1, L_app, in_L, x_small, x_need, ex, ey, e4, lit_e, e5, ew, j1, ↓j2]) ?_
  refine goE (e := [o0, some (.obj 0), some (.obj 1), o3, o4, some (.int a), some (.str (L (x ++ w ++ y))), p7]) (s := S5 ++ [o1, o2]) (by simp only [x_bnd, k_ok, k_exc, k_stuck, x_giv, x_fail, selM_t, selM_f, selS_t, selS_f, sK_ok, sK_exc, sK_stuck, x_seq, seq_nx, seq_bk, seq_ct, seq_rt, seq_exc, seq_stuck, x_ret, x_retN, x_exp, x_set, x_nil, x_brk, x_cnt, x_tgt, tK_ok, tK_stuck, x_asgK, x_asg, ifK_t, ifK_f, x_if, x_fgK, fK_bk, fK_rt, fK_exc, for_src, x_fpK, fpK_nx, fpK_ct, srcK_nil, srcK_rng, x_for, x_def, defK_rt, defK_nx, defK_exc, slot_some, x_slot, x_c, x_Nil, x_consK, x_cons, x_F, x_m2K, x_m2, x_m1, x_B, x_T, asB_bl, asT_bl, asT_int, asT_non, asT_tup, asT_rol, asT_frz, x_And, x_Or, andK_t, andK_f, orK_t, orK_f, x_Not, x_AndV, x_OrV, x_andVK, x_orVK, x_NotV, x_IfE, ifEK_t, ifEK_f, x_Tup, x_Lst, x_mkF, x_mkT, x_Call, add_ii, sub_ii, neg_i, cmp_ii, eq_ii, eq_bb, eq_ss, ne_ii, ne_ss, is_n, isnot_n, non_n, non_i, non_b, non_s, non_t, non_r, non_o, ix_t, ix_r, ix_f, lst_s, ix_oo, len_oo, srcL_oo, set_oo, setO_l, opt_s, len_t, len_r, len_f, abs_i, int_i, int_b, max_ii, min_ii, gcd_ii, list_f, list_r, list_t, tuple_r, tuple_t, x_It, x_Nm, x_Tp, x_gN, x_gC, x_iE, x_iF, srcL_f, srcL_r, srcT_t, srcS_s, x_Isi, isi_tt, isi_ti, isi_tn, isi_tb, isi_ts, isi_bt, isi_bi, isi_bn, isi_bb, isi_bs, isi_st, isi_si, isi_sn, isi_sb, isi_ss, isi_it, isi_ii, isi_in, isi_ib, isi_is, at0, at1, at2, at3, ix0, ix1, ix2, ix3, whC_t, whC_f, whK_nx, whK_ct, whK_bk, whK_rt, List.map_cons, List.map_nil, List.length_cons, List.length_nil, List.replicate_succ, List.replicate_zero, List.set_cons_zero, List.set_cons_succ, List.cons_append, List.nil_append, List.append_nil, Nat.reduceAdd, Nat.reduceSub, Nat.sub_zero, Nat.sub_self, Nat.zero_add, List.getElem?_cons_zero, List.getElem?_cons_succ, decide_true, decide_false, Bool.not_true, Bool.not_false, List.isEmpty_cons, List.isEmpty_nil, Nat.reduceLeDiff, Nat.reduceSucc, x_Me, x_meK, x_Me0, ty_ss, ty_lo, ty_ll, ty_dd, ty_lr, ap_o, up_l, pop_o, pop_l, asT_o, tru_l, tru_d, ext_o, lsts_r, lsts_t, x_chain, in_ssF, in_ssT, in_t, in_r, in_o, inK_sF, inK_sT, flat_s, flat_i, List.all_cons, List.all_nil, Bool.and_true, Bool.true_and, rev_t, rev_r, sum_r, maxL_r, minL_r, any_r, all_r, inc_ii, x_aug, x_lc, x_lc2, lcEnd_f, lcEnd_t, x_yes, x_Sl, x_oN, x_oS, asI_i, sl_t, sl_r, cut1, js_nil, js_cons, add_or, x_raise, x_raiseI, rai_2, x_try, try_nx, try_rt, try_e0, try_e2, hot_bl, x_isx, isx_1, x_fld, fld_1, L_app, in_L, x_small, x_need, ↓al]) ?_
  simp only [x_bnd, k_ok, k_exc, k_stuck, x_giv, x_fail, selM_t, selM_f, selS_t, selS_f, sK_ok, sK_exc, sK_stuck, x_seq, seq_nx, seq_bk, seq_ct, seq_rt, seq_exc, seq_stuck, x_ret, x_retN, x_exp, x_set, x_nil, x_brk, x_cnt, x_tgt, tK_ok, tK_stuck, x_asgK, x_asg, ifK_t, ifK_f, x_if, x_fgK, fK_bk, fK_rt, fK_exc, for_src, x_fpK, fpK_nx, fpK_ct, srcK_nil, srcK_rng, x_for, x_def, defK_rt, defK_nx, defK_exc, slot_some, x_slot, x_c, x_Nil, x_consK, x_cons, x_F, x_m2K, x_m2, x_m1, x_B, x_T, asB_bl, asT_bl, asT_int, asT_non, asT_tup, asT_rol, asT_frz, x_And, x_Or, andK_t, andK_f, orK_t, orK_f, x_Not, x_AndV, x_OrV, x_andVK, x_orVK, x_NotV, x_IfE, ifEK_t, ifEK_f, x_Tup, x_Lst, x_mkF, x_mkT, x_Call, add_ii, sub_ii, neg_i, cmp_ii, eq_ii, eq_bb, eq_ss, ne_ii, ne_ss, is_n, isnot_n, non_n, non_i, non_b, non_s, non_t, non_r, non_o, ix_t, ix_r, ix_f, lst_s, ix_oo, len_oo, srcL_oo, set_oo, setO_l, opt_s, len_t, len_r, len_f, abs_i, int_i, int_b, max_ii, min_ii, gcd_ii, list_f, list_r, list_t, tuple_r, tuple_t, x_It, x_Nm, x_Tp, x_gN, x_gC, x_iE, x_iF, srcL_f, srcL_r, srcT_t, srcS_s, x_Isi, isi_tt, isi_ti, isi_tn, isi_tb, isi_ts, isi_bt, isi_bi, isi_bn, isi_bb, isi_bs, isi_st, isi_si, isi_sn, isi_sb, isi_ss, isi_it, isi_ii, isi_in, isi_ib, isi_is, at0, at1, at2, at3, ix0, ix1, ix2, ix3, whC_t, whC_f, whK_nx, whK_ct, whK_bk, whK_rt, List.map_cons, List.map_nil, List.length_cons, List.length_nil, List.replicate_succ, List.replicate_zero, List.set_cons_zero, List.set_cons_succ, List.cons_append, List.nil_append, List.append_nil, Nat.reduceAdd, Nat.reduceSub, Nat.sub_zero, Nat.sub_self, Nat.zero_add, List.getElem?_cons_zero, List.getElem?_cons_succ, decide_true, decide_false, Bool.not_true, Bool.not_false, List.isEmpty_cons, List.isEmpty_nil, Nat.reduceLeDiff, Nat.reduceSucc, x_Me, x_meK, x_Me0, ty_ss, ty_lo, ty_ll, ty_dd, ty_lr, ap_o, up_l, pop_o, pop_l, asT_o, tru_l, tru_d, ext_o, lsts_r, lsts_t, x_chain, in_ssF, in_ssT, in_t, in_r, in_o, inK_sF, inK_sT, flat_s, flat_i, List.all_cons, List.all_nil, Bool.and_true, Bool.true_and, rev_t, rev_r, sum_r, maxL_r, minL_r, any_r, all_r, inc_ii, x_aug, x_lc, x_lc2, lcEnd_f, lcEnd_t, x_yes, x_Sl, x_oN, x_oS, asI_i, sl_t, sl_r, cut1, js_nil, js_cons, add_or, x_raise, x_raiseI, rai_2, x_try, try_nx, try_rt, try_e0, try_e2, hot_bl, x_isx, isx_1, x_fld, fld_1, L_app, in_L, x_small, x_need, g, hneed]
/-- the pieces of the first text -/
theorem loop3 {a b : List Nat} (ha : a.length ≤ 3000) (o0 o3 o4 o6 o7 : Option D) : ∀ (ks : List Int) (R S : Store) (o5 : Option D), Tape cells c (.lst [.str (L a), .str (L b)] :: R) S → ∃ (o5' : Option D) (S' R' : Store),
    forP (gNm 5) L_law_3 (ks.map .int) [o0, some (.obj 0), some (.obj 1), o3, o4, o5, o6, o7] S = .nx [o0, some (.obj 0), some (.obj 1), o3, o4, o5', o6, o7] S' ∧ Tape cells c (.lst [.str (L a), .str (L b)] :: R') S'
  | [], R, S, o5, h => ⟨o5, S, R, fp_nil, h⟩
  | k :: ks, R, S, o5, h => by
    obtain ⟨x, xl, ex⟩ := sl_any a (some k) (some (k + 6)) (by omega)
    obtain ⟨o1, o2, al⟩ := alike_u (l := x) (by omega)
    have g : S[1]? = some (.lst [.str (L a), .str (L b)]) := h.get 0
    have e1 : L_law_3 ([o0, some (.obj 0), some (.obj 1), o3, o4, o5, o6, o7].set 5 (some (.int k))) S = .nx [o0, some (.obj 0), some (.obj 1), o3, o4, some (.int k), o6, o7] (S ++ [o1, o2]) := by
      simp only [L_law_3, x_bnd, k_ok, k_exc, k_stuck, x_giv, x_fail, selM_t, selM_f, selS_t, selS_f, sK_ok, sK_exc, sK_stuck, x_seq, seq_nx, seq_bk, seq_ct, seq_rt, seq_exc, seq_stuck, x_ret, x_retN, x_exp, x_set, x_nil, x_brk, x_cnt, x_tgt, tK_ok, tK_stuck, x_asgK, x_asg, ifK_t, ifK_f, x_if, x_fgK, fK_bk, fK_rt, fK_exc, for_src, x_fpK, fpK_nx, fpK_ct, srcK_nil, srcK_rng, x_for, x_def, defK_rt, defK_nx, defK_exc, slot_some, x_slot, x_c, x_Nil, x_consK, x_cons, x_F, x_m2K, x_m2, x_m1, x_B, x_T, asB_bl, asT_bl, asT_int, asT_non, asT_tup, asT_rol, asT_frz, x_And, x_Or, andK_t, andK_f, orK_t, orK_f, x_Not, x_AndV, x_OrV, x_andVK, x_orVK, x_NotV, x_IfE, ifEK_t, ifEK_f, x_Tup, x_Lst, x_mkF, x_mkT, x_Call, add_ii, sub_ii, neg_i, cmp_ii, eq_ii, eq_bb, eq_ss, ne_ii, ne_ss, is_n, isnot_n, non_n, non_i, non_b, non_s, non_t, non_r, non_o, ix_t, ix_r, ix_f, lst_s, ix_oo, len_oo, srcL_oo, set_oo, setO_l, opt_s, len_t, len_r, len_f, abs_i, int_i, int_b, max_ii, min_ii, gcd_ii, list_f, list_r, list_t, tuple_r, tuple_t, x_It, x_Nm, x_Tp, x_gN, x_gC, x_iE, x_iF, srcL_f, srcL_r, srcT_t, srcS_s, x_Isi, isi_tt, isi_ti, isi_tn, isi_tb, isi_ts, isi_bt, isi_bi, isi_bn, isi_bb, isi_bs, isi_st, isi_si, isi_sn, isi_sb, isi_ss, isi_it, isi_ii, isi_in, isi_ib, isi_is, at0, at1, at2, at3, ix0, ix1, ix2, ix3, whC_t, whC_f, whK_nx, whK_ct, whK_bk, whK_rt, List.map_cons, List.map_nil, List.length_cons, List.length_nil, List.replicate_succ, List.replicate_zero, List.set_cons_zero, List.set_cons_succ, List.cons_append, List.nil_append, List.append_nil, Nat.reduceAdd, Nat.reduceSub, Nat.sub_zero, Nat.sub_self, Nat.zero_add, List.getElem?_cons_zero, List.getElem?_cons_succ, decide_true, decide_false, Bool.not_true, Bool.not_false, List.isEmpty_cons, List.isEmpty_nil, Nat.reduceLeDiff, Nat.reduceSucc, x_Me, x_meK, x_Me0, ty_ss, ty_lo, ty_ll, ty_dd, ty_lr, ap_o, up_l, pop_o, pop_l, asT_o, tru_l, tru_d, ext_o, lsts_r, lsts_t, x_chain, in_ssF, in_ssT, in_t, in_r, in_o, inK_sF, inK_sT, flat_s, flat_i, List.all_cons, List.all_nil, Bool.and_true, Bool.true_and, rev_t, rev_r, sum_r, maxL_r, minL_r, any_r, all_r, inc_ii, x_aug, x_lc, x_lc2, lcEnd_f, lcEnd_t, x_yes, x_Sl, x_oN, x_oS, asI_i, sl_t, sl_r, cut1, js_nil, js_cons, add_or, x_raise, x_raiseI, rai_2, x_try, try_nx, try_rt, try_e0, try_e2, hot_bl, x_isx, isx_1, x_fld, fld_1, L_app, in_L, x_small, x_need, g, ex, ↓al]
    obtain ⟨o5', S', R', e2, h2⟩ := loop3 ha o0 o3 o4 o6 o7 ks (R ++ [o1, o2]) (S ++ [o1, o2]) (some (.int k)) (Tape.two h o1 o2)
    refine ⟨o5', S', R', ?_, h2⟩
    rw [List.map_cons, fp_cons, x_Nm, tK_ok, x_fpK, e1, fpK_nx]
    exact e2
theorem law_true : ∀ ns : List Int, ns.length ≤ 63 → (∀ z ∈ ns, Builtin.Int.intBits z ≤ 1048576) → ∃ S', m_law [.frz (ns.map .int)] [] = .ok (.bl true) S' := by
  intro ns _ _
  obtain ⟨S0, e0, t0⟩ := tape_spec ns []
  have tl := t0.len
  have t0 := t0.snoc (.lst [])
  have sl0 : S0.length = 1 := by simpa using tl
  have two : ∃ (a b : List Nat) (o3 o5 o6 o7 : Option D) (S1 R : Store), a.length ≤ 3000 ∧ b.length ≤ 3000 ∧ Tape ns 1000 (.lst [.str (L a), .str (L b)] :: R) S1 ∧
      forP (gNm 3) L_law_2 ((List.range ((2 : Int) - 0).toNat).map fun (j : Nat) => .int (0 + (j : Int))) [some (.frz (ns.map .int)), some (.obj 0), some (.obj 1), none, none, none, none, none] (S0 ++ [.lst []]) = .nx [some (.frz (ns.map .int)), some (.obj 0), some (.obj 1), o3, none, o5, o6, o7] S1 := by
    obtain ⟨a, p5, p7, S1, R1, la, e1, h1⟩ := body2 (ts := []) (R := []) t0 (by omega) (by simp) (some (.frz (ns.map .int))) (some (.int 0)) none none none none
    obtain ⟨b, q5, q7, S2, R2, lb, e2, h2⟩ := body2 h1 (by omega) (by simp) (some (.frz (ns.map .int))) (some (.int 1)) none p5 (some (.str (L a))) p7
    refine ⟨a, b, some (.int 1), q5, some (.str (L b)), q7, S2, R2, la, lb, h2.mono (by omega), ?_⟩
    show forP (gNm 3) L_law_2 [.int 0, .int 1] [some (.frz (ns.map .int)), some (.obj 0), some (.obj 1), none, none, none, none, none] (S0 ++ [.lst []]) = _
    rw [forP_nx x_Nm e1, forP_nx x_Nm e2, fp_nil]
  obtain ⟨a, b, o3, o5, o6, o7, S1, R, la, lb, t1, e1⟩ := two
  have rg2 : ∀ S, rng1 [.int 2] S = .ok (srcR 0 2) S := fun S => rng1_i (by decide)
  obtain ⟨f, S2, e2, t2, f0, f1⟩ := draw_spec t1 (by omega) (m := 8) (by decide)
  have g2 : S2[1]? = some (.lst [.str (L a), .str (L b)]) := t2.get 0
  have e0' : (S0 ++ [Ob.lst []]) = S0 ++ [Ob.lst []] := rfl
  by_cases hf : f = 0
  · have hd : decide (f = 0) = true := decide_eq_true hf
    obtain ⟨x, xl, ex⟩ := sl_upto a 9 (by omega)
    obtain ⟨y, yl, ey⟩ := sl_upto b 3 (by omega)
    have ex : ∀ S, dSl false (.str (L a)) none (some 9) S = .ok (.str (L x)) S := ex
    have ey : ∀ S, dSl false (.str (L b)) none (some 3) S = .ok (.str (L y)) S := ey
    have j1 := fun S => add_L (a := x) (b := [32]) (o := false) (S := S) (by simp; omega)
    have j2 := fun S => add_L (a := y) (b := [43]) (o := false) (S := S) (by simp; omega)
    have m1 : ∀ S, dMulS (.str (L (x ++ [32]))) (.int 190) S = .ok (.str (L (List.replicate 190 (x ++ [32])).flatten)) S := fun S => mulS_L (n := 190) (by rw [List.length_append]; simp; omega) (by omega)
    have m2 : ∀ S, dMulS (.str (L (y ++ [43]))) (.int 400) S = .ok (.str (L (List.replicate 400 (y ++ [43])).flatten)) S := fun S => mulS_L (n := 400) (by rw [List.length_append]; simp; omega) (by omega)
    have fl : ∀ (n : Nat) (l : List Nat), (List.replicate n l).flatten.length = n * l.length := fun n l => by
      induction n with
      | zero => simp
      | succ n ih => rw [List.replicate_succ, List.flatten_cons, List.length_append, ih, Nat.succ_mul]; omega
    have l1 := fl 190 (x ++ [32])
    have l2 := fl 400 (y ++ [43])
    obtain ⟨u, hu⟩ : ∃ u, (List.replicate 190 (x ++ [32])).flatten = u := ⟨_, rfl⟩
    obtain ⟨v, hv⟩ : ∃ v, (List.replicate 400 (y ++ [43])).flatten = v := ⟨_, rfl⟩
    rw [hu] at m1 l1
    rw [hv] at m2 l2
    rw [List.length_append, List.length_cons, List.length_nil] at l1 l2
    obtain ⟨z, zl, ez⟩ := sl_any u none (some 2000) (by omega)
    have j3 := fun S => add_L (a := v) (b := [97]) (o := false) (S := S) (by simp; omega)
    have la97 : PySem.Str.ofString "a" = L [97] := lit_L _ _ (by decide +kernel)
    obtain ⟨w1, w2, al1⟩ := alike_u (l := z) (by omega)
    obtain ⟨w3, w4, al2⟩ := alike_u (l := v ++ [97]) (by rw [List.length_append]; simp; omega)
    have t3 := Tape.two t2 w1 w2
    have g3 : (S2 ++ [w1, w2])[1]? = some (.lst [.str (L a), .str (L b)]) := t3.get 0
    refine ⟨(S2 ++ [w1, w2]) ++ [w3, w4], ?_⟩
    simp only [m_law, x_bnd, k_ok, k_exc, k_stuck, x_giv, x_fail, selM_t, selM_f, selS_t, selS_f, sK_ok, sK_exc, sK_stuck, x_seq, seq_nx, seq_bk, seq_ct, seq_rt, seq_exc, seq_stuck, x_ret, x_retN, x_exp, x_set, x_nil, x_brk, x_cnt, x_tgt, tK_ok, tK_stuck, x_asgK, x_asg, ifK_t, ifK_f, x_if, x_fgK, fK_bk, fK_rt, fK_exc, for_src, x_fpK, fpK_nx, fpK_ct, srcK_nil, srcK_rng, x_for, x_def, defK_rt, defK_nx, defK_exc, slot_some, x_slot, x_c, x_Nil, x_consK, x_cons, x_F, x_m2K, x_m2, x_m1, x_B, x_T, asB_bl, asT_bl, asT_int, asT_non, asT_tup, asT_rol, asT_frz, x_And, x_Or, andK_t, andK_f, orK_t, orK_f, x_Not, x_AndV, x_OrV, x_andVK, x_orVK, x_NotV, x_IfE, ifEK_t, ifEK_f, x_Tup, x_Lst, x_mkF, x_mkT, x_Call, add_ii, sub_ii, neg_i, cmp_ii, eq_ii, eq_bb, eq_ss, ne_ii, ne_ss, is_n, isnot_n, non_n, non_i, non_b, non_s, non_t, non_r, non_o, ix_t, ix_r, ix_f, lst_s, ix_oo, len_oo, srcL_oo, set_oo, setO_l, opt_s, len_t, len_r, len_f, abs_i, int_i, int_b, max_ii, min_ii, gcd_ii, list_f, list_r, list_t, tuple_r, tuple_t, x_It, x_Nm, x_Tp, x_gN, x_gC, x_iE, x_iF, srcL_f, srcL_r, srcT_t, srcS_s, x_Isi, isi_tt, isi_ti, isi_tn, isi_tb, isi_ts, isi_bt, isi_bi, isi_bn, isi_bb, isi_bs, isi_st, isi_si, isi_sn, isi_sb, isi_ss, isi_it, isi_ii, isi_in, isi_ib, isi_is, at0, at1, at2, at3, ix0, ix1, ix2, ix3, whC_t, whC_f, whK_nx, whK_ct, whK_bk, whK_rt, List.map_cons, List.map_nil, List.length_cons, List.length_nil, List.replicate_succ, List.replicate_zero, List.set_cons_zero, List.set_cons_succ, List.cons_append, List.nil_append, List.append_nil, Nat.reduceAdd, Nat.reduceSub, Nat.sub_zero, Nat.sub_self, Nat.zero_add, List.getElem?_cons_zero, List.getElem?_cons_succ, decide_true, decide_false, Bool.not_true, Bool.not_false, List.isEmpty_cons, List.isEmpty_nil, Nat.reduceLeDiff, Nat.reduceSucc, x_Me, x_meK, x_Me0, ty_ss, ty_lo, ty_ll, ty_dd, ty_lr, ap_o, up_l, pop_o, pop_l, asT_o, tru_l, tru_d, ext_o, lsts_r, lsts_t, x_chain, in_ssF, in_ssT, in_t, in_r, in_o, inK_sF, inK_sT, flat_s, flat_i, List.all_cons, List.all_nil, Bool.and_true, Bool.true_and, rev_t, rev_r, sum_r, maxL_r, minL_r, any_r, all_r, inc_ii, x_aug, x_lc, x_lc2, lcEnd_f, lcEnd_t, x_yes, x_Sl, x_oN, x_oS, asI_i, sl_t, sl_r, cut1, js_nil, js_cons, add_or, x_raise, x_raiseI, rai_2, x_try, try_nx, try_rt, try_e0, try_e2, hot_bl, x_isx, isx_1, x_fld, fld_1, L_app, in_L, x_small, x_need, e0, sl0, rg2, ↓e1, e2, hd, g2, ex, lit_b, ↓j1, ↓m1, ez, al1, g3, ey, lit_p, ↓j2, ↓m2, la97, ↓j3, ↓al2]
  · have hd : decide (f = 0) = false := decide_eq_false hf
    have j1 := fun S => add_L (a := a) (b := [32]) (o := false) (S := S) (by simp; omega)
    have j2 := fun S => add_L (a := a ++ [32]) (b := b) (o := false) (S := S) (by rw [List.length_append]; simp; omega)
    obtain ⟨w1, w2, al1⟩ := alike_u (l := a ++ [32] ++ b) (by rw [List.length_append, List.length_append]; simp; omega)
    have t3 := Tape.two t2 w1 w2
    have g3 : (S2 ++ [w1, w2])[1]? = some (.lst [.str (L a), .str (L b)]) := t3.get 0
    have ln := fun S => len_L (l := a) (S := S) (by omega)
    obtain ⟨st, S4, e4, t4, s0, s1⟩ := draw_spec t3 (by omega) (m := (a.length : Int) + 1) (by omega)
    rw [if_neg (by omega)] at s1
    have g4 : S4[1]? = some (.lst [.str (L a), .str (L b)]) := t4.get 0
    obtain ⟨m, hm, m0, m1⟩ : ∃ m : Int, (∀ S, gMin2 [.int (st + 8), .int (a.length : Int)] S = .ok (.int m) S) ∧ 0 ≤ m ∧ m ≤ a.length := by
      by_cases h : (a.length : Int) < st + 8
      · exact ⟨a.length, fun S => by simp only [min_ii, h, if_true], by omega, by omega⟩
      · exact ⟨st + 8, fun S => by simp only [min_ii, h, if_false], by omega, by omega⟩
    have rg : ∀ S, rng2 [.int st, .int m] S = .ok (srcR st m) S := fun S => rng2_i ⟨by omega, by omega, by omega, by omega⟩
    obtain ⟨o5', S5, R5, e5, t5⟩ := loop3 la (b := b) (some (.frz (ns.map .int))) o3 (some (.int st)) o6 o7 ((List.range (m - st).toNat).map fun (k : Nat) => st + (k : Int)) _ S4 o5 t4
    rw [List.map_map] at e5
    have e5 : forP (gNm 5) L_law_3 ((List.range (m - st).toNat).map fun (k : Nat) => D.int (st + (k : Int))) [some (.frz (ns.map .int)), some (.obj 0), some (.obj 1), o3, some (.int st), o5, o6, o7] S4 = .nx [some (.frz (ns.map .int)), some (.obj 0), some (.obj 1), o3, some (.int st), o5', o6, o7] S5 := e5
    obtain ⟨w3, w4, al2⟩ := alike_u (l := []) (by simp)
    refine ⟨S5 ++ [w3, w4], ?_⟩
    simp only [m_law, x_bnd, k_ok, k_exc, k_stuck, x_giv, x_fail, selM_t, selM_f, selS_t, selS_f, sK_ok, sK_exc, sK_stuck, x_seq, seq_nx, seq_bk, seq_ct, seq_rt, seq_exc, seq_stuck, x_ret, x_retN, x_exp, x_set, x_nil, x_brk, x_cnt, x_tgt, tK_ok, tK_stuck, x_asgK, x_asg, ifK_t, ifK_f, x_if, x_fgK, fK_bk, fK_rt, fK_exc, for_src, x_fpK, fpK_nx, fpK_ct, srcK_nil, srcK_rng, x_for, x_def, defK_rt, defK_nx, defK_exc, slot_some, x_slot, x_c, x_Nil, x_consK, x_cons, x_F, x_m2K, x_m2, x_m1, x_B, x_T, asB_bl, asT_bl, asT_int, asT_non, asT_tup, asT_rol, asT_frz, x_And, x_Or, andK_t, andK_f, orK_t, orK_f, x_Not, x_AndV, x_OrV, x_andVK, x_orVK, x_NotV, x_IfE, ifEK_t, ifEK_f, x_Tup, x_Lst, x_mkF, x_mkT, x_Call, add_ii, sub_ii, neg_i, cmp_ii, eq_ii, eq_bb, eq_ss, ne_ii, ne_ss, is_n, isnot_n, non_n, non_i, non_b, non_s, non_t, non_r, non_o, ix_t, ix_r, ix_f, lst_s, ix_oo, len_oo, srcL_oo, set_oo, setO_l, opt_s, len_t, len_r, len_f, abs_i, int_i, int_b, max_ii, min_ii, gcd_ii, list_f, list_r, list_t, tuple_r, tuple_t, x_It, x_Nm, x_Tp, x_gN, x_gC, x_iE, x_iF, srcL_f, srcL_r, srcT_t, srcS_s, x_Isi, isi_tt, isi_ti, isi_tn, isi_tb, isi_ts, isi_bt, isi_bi, isi_bn, isi_bb, isi_bs, isi_st, isi_si, isi_sn, isi_sb, isi_ss, isi_it, isi_ii, isi_in, isi_ib, isi_is, at0, at1, at2, at3, ix0, ix1, ix2, ix3, whC_t, whC_f, whK_nx, whK_ct, whK_bk, whK_rt, List.map_cons, List.map_nil, List.length_cons, List.length_nil, List.replicate_succ, List.replicate_zero, List.set_cons_zero, List.set_cons_succ, List.cons_append, List.nil_append, List.append_nil, Nat.reduceAdd, Nat.reduceSub, Nat.sub_zero, Nat.sub_self, Nat.zero_add, List.getElem?_cons_zero, List.getElem?_cons_succ, decide_true, decide_false, Bool.not_true, Bool.not_false, List.isEmpty_cons, List.isEmpty_nil, Nat.reduceLeDiff, Nat.reduceSucc, x_Me, x_meK, x_Me0, ty_ss, ty_lo, ty_ll, ty_dd, ty_lr, ap_o, up_l, pop_o, pop_l, asT_o, tru_l, tru_d, ext_o, lsts_r, lsts_t, x_chain, in_ssF, in_ssT, in_t, in_r, in_o, inK_sF, inK_sT, flat_s, flat_i, List.all_cons, List.all_nil, Bool.and_true, Bool.true_and, rev_t, rev_r, sum_r, maxL_r, minL_r, any_r, all_r, inc_ii, x_aug, x_lc, x_lc2, lcEnd_f, lcEnd_t, x_yes, x_Sl, x_oN, x_oS, asI_i, sl_t, sl_r, cut1, js_nil, js_cons, add_or, x_raise, x_raiseI, rai_2, x_try, try_nx, try_rt, try_e0, try_e2, hot_bl, x_isx, isx_1, x_fld, fld_1, L_app, in_L, x_small, x_need, e0, sl0, rg2, ↓e1, e2, hd, g2, lit_b, ↓j1, ↓j2, ↓al1, g3, ln, e4, g4, hm, rg, ↓e5, lit_e, ↓al2]
end
end K09

namespace K09
open PySem PySem.Spec PyProof.Rows L2 Py
def txt_mk {K : PySem.W.Frag} {h : Heap} {mg : Str → Option Value} {f1 f2 f3 f4 f5 f6 f7 f8 f9 f10 f11 f12 f13 f14 f15 f16 f17 f18 f19 f20 f21 f22 f23 f24 : Addr} (X : K.In h) (G : h.Ns mainGlobals mg)
    {od1 an1 : Option Addr} {sl1 : Array (Option Value)} {oc1 kV1 dc1 pm1 cd1 ct1 : Value}
    {od2 an2 : Option Addr} {sl2 : Array (Option Value)} {oc2 kV2 dc2 pm2 cd2 ct2 : Value}
    {od3 an3 : Option Addr} {sl3 : Array (Option Value)} {oc3 kV3 dc3 pm3 cd3 ct3 : Value}
    {od4 an4 : Option Addr} {sl4 : Array (Option Value)} {oc4 kV4 dc4 pm4 cd4 ct4 : Value}
    {od5 an5 : Option Addr} {sl5 : Array (Option Value)} {oc5 kV5 dc5 pm5 cd5 ct5 : Value}
    {od6 an6 : Option Addr} {sl6 : Array (Option Value)} {oc6 kV6 dc6 pm6 cd6 ct6 : Value}
    {od7 an7 : Option Addr} {sl7 : Array (Option Value)} {oc7 kV7 dc7 pm7 cd7 ct7 : Value}
    {od8 an8 : Option Addr} {sl8 : Array (Option Value)} {oc8 kV8 dc8 pm8 cd8 ct8 : Value}
    {od9 an9 : Option Addr} {sl9 : Array (Option Value)} {oc9 kV9 dc9 pm9 cd9 ct9 : Value}
    {od10 an10 : Option Addr} {sl10 : Array (Option Value)} {oc10 kV10 dc10 pm10 cd10 ct10 : Value}
    {od11 an11 : Option Addr} {sl11 : Array (Option Value)} {oc11 kV11 dc11 pm11 cd11 ct11 : Value}
    {od12 an12 : Option Addr} {sl12 : Array (Option Value)} {oc12 kV12 dc12 pm12 cd12 ct12 : Value}
    {od13 an13 : Option Addr} {sl13 : Array (Option Value)} {oc13 kV13 dc13 pm13 cd13 ct13 : Value}
    {od14 an14 : Option Addr} {sl14 : Array (Option Value)} {oc14 kV14 dc14 pm14 cd14 ct14 : Value}
    {od15 an15 : Option Addr} {sl15 : Array (Option Value)} {oc15 kV15 dc15 pm15 cd15 ct15 : Value}
    {od16 an16 : Option Addr} {sl16 : Array (Option Value)} {oc16 kV16 dc16 pm16 cd16 ct16 : Value}
    {od17 an17 : Option Addr} {sl17 : Array (Option Value)} {oc17 kV17 dc17 pm17 cd17 ct17 : Value}
    {od18 an18 : Option Addr} {sl18 : Array (Option Value)} {oc18 kV18 dc18 pm18 cd18 ct18 : Value}
    {od19 an19 : Option Addr} {sl19 : Array (Option Value)} {oc19 kV19 dc19 pm19 cd19 ct19 : Value}
    {od20 an20 : Option Addr} {sl20 : Array (Option Value)} {oc20 kV20 dc20 pm20 cd20 ct20 : Value}
    {od21 an21 : Option Addr} {sl21 : Array (Option Value)} {oc21 kV21 dc21 pm21 cd21 ct21 : Value}
    {od22 an22 : Option Addr} {sl22 : Array (Option Value)} {oc22 kV22 dc22 pm22 cd22 ct22 : Value}
    {od23 an23 : Option Addr} {sl23 : Array (Option Value)} {oc23 kV23 dc23 pm23 cd23 ct23 : Value}
    {od24 an24 : Option Addr} {sl24 : Array (Option Value)} {oc24 kV24 dc24 pm24 cd24 ct24 : Value}
    {uc0 : Addr} {ud0 : Option Addr} {ui0 : Array Value} {un0 : Nat} {ul0 : Array (Option Value)}
    {uc1 : Addr} {ud1 : Option Addr} {ui1 : Array Value} {un1 : Nat} {ul1 : Array (Option Value)}
    {uu2 : Value}
    {uu3 : Value}
    {uu4 : Value}
    {uu5 : Value}
    {uc6 : Addr} {ud6 : Option Addr} {ui6 : Array Value} {un6 : Nat} {ul6 : Array (Option Value)}
    {uu7 : Value}
    {cf0 : Addr}
    {cf1 : Addr}
    {cf2 : Addr}
    {cf3 : Addr}
    {cf4 : Addr}
    {cf5 : Addr}
    {cf6 : Addr}
    {cf7 : Addr}
    {cf8 : Addr}
    {cf9 : Addr}
    {cf10 : Addr}
    {cf11 : Addr}
    {cf12 : Addr}
    {cf13 : Addr}
    {cf14 : Addr}
    {ef0 : Addr} {xf0 : Addr} {xod0 xan0 : Option Addr} {xsl0 : Array (Option Value)} {xoc0 xkV0 xdc0 xpm0 xcd0 xct0 : Value}
    
    
    
    
    
    
    
    
    
    
    
    
    
    
    
    
    
    (a1 : PySem.W.nsIn K mainGlobals "fraction" = some (some (.ref f1))) (l1 : K.lookup f1 = some ⟨oc1, od1, .func (PySem.W.fnOf "fraction" "fraction" (defArgs s_fraction) (defBody s_fraction) (defScope s_fraction) .none kV1 dc1 pm1 an1 cd1 ct1), sl1⟩) (c1 : PySem.W.codeIn K cd1 "fraction" = true) (k1 : PySem.W.keepIn K (.ref f1) = true)
    (a2 : PySem.W.nsIn K mainGlobals "split_text" = some (some (.ref f2))) (l2 : K.lookup f2 = some ⟨oc2, od2, .func (PySem.W.fnOf "split_text" "split_text" (defArgs s_split_text) (defBody s_split_text) (defScope s_split_text) .none kV2 dc2 pm2 an2 cd2 ct2), sl2⟩) (c2 : PySem.W.codeIn K cd2 "split_text" = true) (k2 : PySem.W.keepIn K (.ref f2) = true)
    (a3 : PySem.W.nsIn K mainGlobals "_token_at" = some (some (.ref f3))) (l3 : K.lookup f3 = some ⟨oc3, od3, .func (PySem.W.fnOf "_token_at" "_token_at" (defArgs s__token_at) (defBody s__token_at) (defScope s__token_at) .none kV3 dc3 pm3 an3 cd3 ct3), sl3⟩) (c3 : PySem.W.codeIn K cd3 "_token_at" = true) (k3 : PySem.W.keepIn K (.ref f3) = true)
    (a4 : PySem.W.nsIn K mainGlobals "_end_of_run" = some (some (.ref f4))) (l4 : K.lookup f4 = some ⟨oc4, od4, .func (PySem.W.fnOf "_end_of_run" "_end_of_run" (defArgs s__end_of_run) (defBody s__end_of_run) (defScope s__end_of_run) .none kV4 dc4 pm4 an4 cd4 ct4), sl4⟩) (c4 : PySem.W.codeIn K cd4 "_end_of_run" = true) (k4 : PySem.W.keepIn K (.ref f4) = true)
    (a5 : PySem.W.nsIn K mainGlobals "_number_at" = some (some (.ref f5))) (l5 : K.lookup f5 = some ⟨oc5, od5, .func (PySem.W.fnOf "_number_at" "_number_at" (defArgs s__number_at) (defBody s__number_at) (defScope s__number_at) .none kV5 dc5 pm5 an5 cd5 ct5), sl5⟩) (c5 : PySem.W.codeIn K cd5 "_number_at" = true) (k5 : PySem.W.keepIn K (.ref f5) = true)
    (a6 : PySem.W.nsIn K mainGlobals "_name_at" = some (some (.ref f6))) (l6 : K.lookup f6 = some ⟨oc6, od6, .func (PySem.W.fnOf "_name_at" "_name_at" (defArgs s__name_at) (defBody s__name_at) (defScope s__name_at) .none kV6 dc6 pm6 an6 cd6 ct6), sl6⟩) (c6 : PySem.W.codeIn K cd6 "_name_at" = true) (k6 : PySem.W.keepIn K (.ref f6) = true)
    (a7 : PySem.W.nsIn K mainGlobals "_choice_at" = some (some (.ref f7))) (l7 : K.lookup f7 = some ⟨oc7, od7, .func (PySem.W.fnOf "_choice_at" "_choice_at" (defArgs s__choice_at) (defBody s__choice_at) (defScope s__choice_at) .none kV7 dc7 pm7 an7 cd7 ct7), sl7⟩) (c7 : PySem.W.codeIn K cd7 "_choice_at" = true) (k7 : PySem.W.keepIn K (.ref f7) = true)
    (a8 : PySem.W.nsIn K mainGlobals "_above_at" = some (some (.ref f8))) (l8 : K.lookup f8 = some ⟨oc8, od8, .func (PySem.W.fnOf "_above_at" "_above_at" (defArgs s__above_at) (defBody s__above_at) (defScope s__above_at) .none kV8 dc8 pm8 an8 cd8 ct8), sl8⟩) (c8 : PySem.W.codeIn K cd8 "_above_at" = true) (k8 : PySem.W.keepIn K (.ref f8) = true)
    (a9 : PySem.W.nsIn K mainGlobals "_symbol_at" = some (some (.ref f9))) (l9 : K.lookup f9 = some ⟨oc9, od9, .func (PySem.W.fnOf "_symbol_at" "_symbol_at" (defArgs s__symbol_at) (defBody s__symbol_at) (defScope s__symbol_at) .none kV9 dc9 pm9 an9 cd9 ct9), sl9⟩) (c9 : PySem.W.codeIn K cd9 "_symbol_at" = true) (k9 : PySem.W.keepIn K (.ref f9) = true)
    (a10 : PySem.W.nsIn K mainGlobals "_law_tape" = some (some (.ref f10))) (l10 : K.lookup f10 = some ⟨oc10, od10, .func (PySem.W.fnOf "_law_tape" "_law_tape" (defArgs s__law_tape) (defBody s__law_tape) (defScope s__law_tape) .none kV10 dc10 pm10 an10 cd10 ct10), sl10⟩) (c10 : PySem.W.codeIn K cd10 "_law_tape" = true) (k10 : PySem.W.keepIn K (.ref f10) = true)
    (a11 : PySem.W.nsIn K mainGlobals "_law_draw" = some (some (.ref f11))) (l11 : K.lookup f11 = some ⟨oc11, od11, .func (PySem.W.fnOf "_law_draw" "_law_draw" (defArgs s__law_draw) (defBody s__law_draw) (defScope s__law_draw) .none kV11 dc11 pm11 an11 cd11 ct11), sl11⟩) (c11 : PySem.W.codeIn K cd11 "_law_draw" = true) (k11 : PySem.W.keepIn K (.ref f11) = true)
    (a12 : PySem.W.nsIn K mainGlobals "_law_pick" = some (some (.ref f12))) (l12 : K.lookup f12 = some ⟨oc12, od12, .func (PySem.W.fnOf "_law_pick" "_law_pick" (defArgs s__law_pick) (defBody s__law_pick) (defScope s__law_pick) .none kV12 dc12 pm12 an12 cd12 ct12), sl12⟩) (c12 : PySem.W.codeIn K cd12 "_law_pick" = true) (k12 : PySem.W.keepIn K (.ref f12) = true)
    (a13 : PySem.W.nsIn K mainGlobals "_law_same" = some (some (.ref f13))) (l13 : K.lookup f13 = some ⟨oc13, od13, .func (PySem.W.fnOf "_law_same" "_law_same" (defArgs s__law_same) (defBody s__law_same) (defScope s__law_same) .none kV13 dc13 pm13 an13 cd13 ct13), sl13⟩) (c13 : PySem.W.codeIn K cd13 "_law_same" = true) (k13 : PySem.W.keepIn K (.ref f13) = true)
    (a14 : PySem.W.nsIn K mainGlobals "_law_single" = some (some (.ref f14))) (l14 : K.lookup f14 = some ⟨oc14, od14, .func (PySem.W.fnOf "_law_single" "_law_single" (defArgs s__law_single) (defBody s__law_single) (defScope s__law_single) .none kV14 dc14 pm14 an14 cd14 ct14), sl14⟩) (c14 : PySem.W.codeIn K cd14 "_law_single" = true) (k14 : PySem.W.keepIn K (.ref f14) = true)
    (a15 : PySem.W.nsIn K mainGlobals "_law_gcd" = some (some (.ref f15))) (l15 : K.lookup f15 = some ⟨oc15, od15, .func (PySem.W.fnOf "_law_gcd" "_law_gcd" (defArgs s__law_gcd) (defBody s__law_gcd) (defScope s__law_gcd) .none kV15 dc15 pm15 an15 cd15 ct15), sl15⟩) (c15 : PySem.W.codeIn K cd15 "_law_gcd" = true) (k15 : PySem.W.keepIn K (.ref f15) = true)
    (a16 : PySem.W.nsIn K mainGlobals "_law_fraction" = some (some (.ref f16))) (l16 : K.lookup f16 = some ⟨oc16, od16, .func (PySem.W.fnOf "_law_fraction" "_law_fraction" (defArgs s__law_fraction) (defBody s__law_fraction) (defScope s__law_fraction) .none kV16 dc16 pm16 an16 cd16 ct16), sl16⟩) (c16 : PySem.W.codeIn K cd16 "_law_fraction" = true) (k16 : PySem.W.keepIn K (.ref f16) = true)
    (a17 : PySem.W.nsIn K mainGlobals "_law_end_of" = some (some (.ref f17))) (l17 : K.lookup f17 = some ⟨oc17, od17, .func (PySem.W.fnOf "_law_end_of" "_law_end_of" (defArgs s__law_end_of) (defBody s__law_end_of) (defScope s__law_end_of) .none kV17 dc17 pm17 an17 cd17 ct17), sl17⟩) (c17 : PySem.W.codeIn K cd17 "_law_end_of" = true) (k17 : PySem.W.keepIn K (.ref f17) = true)
    (a18 : PySem.W.nsIn K mainGlobals "_law_number_token" = some (some (.ref f18))) (l18 : K.lookup f18 = some ⟨oc18, od18, .func (PySem.W.fnOf "_law_number_token" "_law_number_token" (defArgs s__law_number_token) (defBody s__law_number_token) (defScope s__law_number_token) .none kV18 dc18 pm18 an18 cd18 ct18), sl18⟩) (c18 : PySem.W.codeIn K cd18 "_law_number_token" = true) (k18 : PySem.W.keepIn K (.ref f18) = true)
    (a19 : PySem.W.nsIn K mainGlobals "_law_token" = some (some (.ref f19))) (l19 : K.lookup f19 = some ⟨oc19, od19, .func (PySem.W.fnOf "_law_token" "_law_token" (defArgs s__law_token) (defBody s__law_token) (defScope s__law_token) .none kV19 dc19 pm19 an19 cd19 ct19), sl19⟩) (c19 : PySem.W.codeIn K cd19 "_law_token" = true) (k19 : PySem.W.keepIn K (.ref f19) = true)
    (a20 : PySem.W.nsIn K mainGlobals "_law_split" = some (some (.ref f20))) (l20 : K.lookup f20 = some ⟨oc20, od20, .func (PySem.W.fnOf "_law_split" "_law_split" (defArgs s__law_split) (defBody s__law_split) (defScope s__law_split) .none kV20 dc20 pm20 an20 cd20 ct20), sl20⟩) (c20 : PySem.W.codeIn K cd20 "_law_split" = true) (k20 : PySem.W.keepIn K (.ref f20) = true)
    (a21 : PySem.W.nsIn K mainGlobals "_law_piece" = some (some (.ref f21))) (l21 : K.lookup f21 = some ⟨oc21, od21, .func (PySem.W.fnOf "_law_piece" "_law_piece" (defArgs s__law_piece) (defBody s__law_piece) (defScope s__law_piece) .none kV21 dc21 pm21 an21 cd21 ct21), sl21⟩) (c21 : PySem.W.codeIn K cd21 "_law_piece" = true) (k21 : PySem.W.keepIn K (.ref f21) = true)
    (a22 : PySem.W.nsIn K mainGlobals "_law_flaw" = some (some (.ref f22))) (l22 : K.lookup f22 = some ⟨oc22, od22, .func (PySem.W.fnOf "_law_flaw" "_law_flaw" (defArgs s__law_flaw) (defBody s__law_flaw) (defScope s__law_flaw) .none kV22 dc22 pm22 an22 cd22 ct22), sl22⟩) (c22 : PySem.W.codeIn K cd22 "_law_flaw" = true) (k22 : PySem.W.keepIn K (.ref f22) = true)
    (a23 : PySem.W.nsIn K mainGlobals "_law_split_alike" = some (some (.ref f23))) (l23 : K.lookup f23 = some ⟨oc23, od23, .func (PySem.W.fnOf "_law_split_alike" "_law_split_alike" (defArgs s__law_split_alike) (defBody s__law_split_alike) (defScope s__law_split_alike) .none kV23 dc23 pm23 an23 cd23 ct23), sl23⟩) (c23 : PySem.W.codeIn K cd23 "_law_split_alike" = true) (k23 : PySem.W.keepIn K (.ref f23) = true)
    (a24 : PySem.W.nsIn K mainGlobals "law" = some (some (.ref f24))) (l24 : K.lookup f24 = some ⟨oc24, od24, .func (PySem.W.fnOf "law" "law" (defArgs s_law) (defBody s_law) (defScope s_law) .none kV24 dc24 pm24 an24 cd24 ct24), sl24⟩) (c24 : PySem.W.codeIn K cd24 "law" = true) (k24 : PySem.W.keepIn K (.ref f24) = true)
    (nK0 : PySem.W.nsIn K mainGlobals "LONG_SYMBOLS" = some (some (.ref uc0))) (mK0 : K.lookup uc0 = some ⟨.type "tuple", ud0, .seq ui0 un0, ul0⟩) (vK0 : dRow ui0.toList = some [(.str "<="), (.str "<>"), (.str ">=")]) (wK0 : ui0.toList.length ≤ 1000)
    (nK1 : PySem.W.nsIn K mainGlobals "SHORT_SYMBOLS" = some (some (.ref uc1))) (mK1 : K.lookup uc1 = some ⟨.type "tuple", ud1, .seq ui1 un1, ul1⟩) (vK1 : dRow ui1.toList = some [(.str "("), (.str ")"), (.str ","), (.str "+"), (.str "-"), (.str "*"), (.str "/"), (.str "<"), (.str "="), (.str ">")]) (wK1 : ui1.toList.length ≤ 1000)
    (nK2 : PySem.W.nsIn K mainGlobals "DIGITS" = some (some uu2)) (vK2 : dOf uu2 = some (.str "0123456789"))
    (nK3 : PySem.W.nsIn K mainGlobals "MOST_DIGITS" = some (some uu3)) (vK3 : dOf uu3 = some (.int 9))
    (nK4 : PySem.W.nsIn K mainGlobals "LETTERS" = some (some uu4)) (vK4 : dOf uu4 = some (.str "ABCDEFGHIJKLMNOPQRSTUVWXYZabcdefghijklmnopqrstuvwxyz"))
    (nK5 : PySem.W.nsIn K mainGlobals "MOST_CHARACTERS" = some (some uu5)) (vK5 : dOf uu5 = some (.int 20))
    (nK6 : PySem.W.nsIn K mainGlobals "RESERVED_WORDS" = some (some (.ref uc6))) (mK6 : K.lookup uc6 = some ⟨.type "tuple", ud6, .seq ui6 un6, ul6⟩) (vK6 : dRow ui6.toList = some [(.str "if"), (.str "and"), (.str "or"), (.str "not"), (.str "sum"), (.str "last"), (.str "floor")]) (wK6 : ui6.toList.length ≤ 1000)
    (nK7 : PySem.W.nsIn K mainGlobals "ABOVE" = some (some uu7)) (vK7 : dOf uu7 = some (.str "[-1]"))
    (ca0 : PySem.W.nsIn K mainGlobals "FractionError" = some (some (.ref cf0)))
    (ca1 : PySem.W.nsIn K mainGlobals "FormulaError" = some (some (.ref cf1)))
    (ca2 : PySem.W.nsIn K mainGlobals "DefinitionError" = some (some (.ref cf2)))
    (ca3 : PySem.W.nsIn K mainGlobals "TooLarge" = some (some (.ref cf3)))
    (ca4 : PySem.W.nsIn K mainGlobals "InputsDiffer" = some (some (.ref cf4)))
    (ca5 : PySem.W.nsIn K mainGlobals "BadPlace" = some (some (.ref cf5)))
    (ca6 : PySem.W.nsIn K mainGlobals "IsFold" = some (some (.ref cf6)))
    (ca7 : PySem.W.nsIn K mainGlobals "TooMany" = some (some (.ref cf7)))
    (ca8 : PySem.W.nsIn K mainGlobals "NothingToFold" = some (some (.ref cf8)))
    (ca9 : PySem.W.nsIn K mainGlobals "NothingToUndo" = some (some (.ref cf9)))
    (ca10 : PySem.W.nsIn K mainGlobals "NothingToRedo" = some (some (.ref cf10)))
    (ca11 : PySem.W.nsIn K mainGlobals "NotDetermined" = some (some (.ref cf11)))
    (ca12 : PySem.W.nsIn K mainGlobals "NotConverted" = some (some (.ref cf12)))
    (ca13 : PySem.W.nsIn K mainGlobals "BadFile" = some (some (.ref cf13)))
    (ca14 : PySem.W.nsIn K mainGlobals "SheetError" = some (some (.ref cf14)))
    (ea0 : PySem.W.nsIn K mainGlobals "FormulaError" = some (some (.ref ef0))) (eb0 : (PySem.W.clsIn K ef0).isSome = true) (ec0 : PySem.W.findIn K (.ref ef0) "__getattribute__" = some (some (.builtin "BaseException.__getattribute__"))) (ed0 : PySem.W.findIn K (.ref ef0) "__getattr__" = some none) (ee0 : PySem.W.subIn K (.ref ef0) (.type "BaseException") = some true) (eg0 : PySem.W.hasDictIn K ef0 = true) (eh0 : PySem.W.findIn K (.ref ef0) "__class__" = some (some (.builtin "object.__class__"))) (ei0 : PySem.W.specialIn K (.builtin "object.__class__") "__get__" = some (some (.builtin "getset_descriptor.__get__"))) (ej0 : PySem.W.takesIn K (.builtin "object.__class__") = some true) (ek0 : PySem.W.mroIn K ef0 (.type "object") = some true) (el0 : PySem.W.keepIn K (.ref ef0) = true) (em0 : PySem.W.typeIn K (.ref ef0) = some (.type "type")) (eo0 : PySem.W.findIn K (.ref ef0) "__setattr__" = some (some (.builtin "object.__setattr__"))) (ep0 : PySem.W.findIn K (.ref ef0) "__init__" = some (some (.ref xf0))) (eq0 : PySem.W.typeIn K (.ref xf0) = some (.type "function")) (er0 : K.lookup xf0 = some ⟨xoc0, xod0, .func (PySem.W.fnOf "__init__" "FormulaError.__init__" (defArgs s_FormulaError) (defBody s_FormulaError) (defScope s_FormulaError) .none xkV0 xdc0 xpm0 xan0 xcd0 xct0), xsl0⟩) (es0 : PySem.W.codeIn K xcd0 "FormulaError.__init__" = true) (et0 : PySem.W.keepIn K (.ref xf0) = true) (eu0 : oexIn K ef0 = true) (ev_place_0 : PySem.W.findIn K (.ref ef0) "place" = some none) (ev_reason_0 : PySem.W.findIn K (.ref ef0) "reason" = some none)
    (xp_0_FractionError : PySem.W.kitOne K (.ref ef0) (.ref cf0) = some false)
    (xp_0_FormulaError : PySem.W.kitOne K (.ref ef0) (.ref cf1) = some true)
    (xp_0_DefinitionError : PySem.W.kitOne K (.ref ef0) (.ref cf2) = some false)
    (xp_0_TooLarge : PySem.W.kitOne K (.ref ef0) (.ref cf3) = some false)
    (xp_0_InputsDiffer : PySem.W.kitOne K (.ref ef0) (.ref cf4) = some false)
    (xp_0_BadPlace : PySem.W.kitOne K (.ref ef0) (.ref cf5) = some false)
    (xp_0_IsFold : PySem.W.kitOne K (.ref ef0) (.ref cf6) = some false)
    (xp_0_TooMany : PySem.W.kitOne K (.ref ef0) (.ref cf7) = some false)
    (xp_0_NothingToFold : PySem.W.kitOne K (.ref ef0) (.ref cf8) = some false)
    (xp_0_NothingToUndo : PySem.W.kitOne K (.ref ef0) (.ref cf9) = some false)
    (xp_0_NothingToRedo : PySem.W.kitOne K (.ref ef0) (.ref cf10) = some false)
    (xp_0_NotDetermined : PySem.W.kitOne K (.ref ef0) (.ref cf11) = some false)
    (xp_0_NotConverted : PySem.W.kitOne K (.ref ef0) (.ref cf12) = some false)
    (xp_0_BadFile : PySem.W.kitOne K (.ref ef0) (.ref cf13) = some false)
    (xp_0_SheetError : PySem.W.kitOne K (.ref ef0) (.ref cf14) = some true)
    (xp_0_ValueError : PySem.W.kitOne K (.ref ef0) (.type "ValueError") = some true)
    (xk_0_SheetError : PySem.W.exmOne K (.ref ef0) (.ref cf14) = some true)
    (z0 : PySem.W.nsIn K mainGlobals "len" = some none) (z1 : PySem.W.nsIn K mainGlobals "int" = some none) (z2 : PySem.W.nsIn K mainGlobals "tuple" = some none) (z3 : PySem.W.nsIn K mainGlobals "abs" = some none) (z4 : PySem.W.nsIn K mainGlobals "list" = some none) (z5 : PySem.W.nsIn K mainGlobals "max" = some none) (z6 : PySem.W.nsIn K mainGlobals "isinstance" = some none) (z7 : PySem.W.nsIn K mainGlobals "range" = some none) (z8 : PySem.W.nsIn K mainGlobals "bool" = some none) (z9 : PySem.W.nsIn K mainGlobals "str" = some none) (z10 : PySem.W.nsIn K mainGlobals "ValueError" = some none) (z11 : PySem.W.nsIn K mainGlobals "min" = some none) (q0 : PySem.W.nsIn K mainGlobals "gcd" = some (some (.builtin "math.gcd"))) : Txt K mg :=
  { a_fraction := f1, d_fraction := _, F_fraction := fun_mk (st := s_fraction) l1 c1 k1, b_fraction := (fun_mk (st := s_fraction) l1 c1 k1).binds (ps := ["n", "d"]) fun _ _ _ _ _ _ us hl => match us, hl with | [_, _], _ => rfl, g_fraction := PySem.W.mg_of X G a1,
    a_split_text := f2, d_split_text := _, F_split_text := fun_mk (st := s_split_text) l2 c2 k2, b_split_text := (fun_mk (st := s_split_text) l2 c2 k2).binds (ps := ["text"]) fun _ _ _ _ _ _ us hl => match us, hl with | [_], _ => rfl, g_split_text := PySem.W.mg_of X G a2,
    a__token_at := f3, d__token_at := _, F__token_at := fun_mk (st := s__token_at) l3 c3 k3, b__token_at := (fun_mk (st := s__token_at) l3 c3 k3).binds (ps := ["text", "place"]) fun _ _ _ _ _ _ us hl => match us, hl with | [_, _], _ => rfl, g__token_at := PySem.W.mg_of X G a3,
    a__end_of_run := f4, d__end_of_run := _, F__end_of_run := fun_mk (st := s__end_of_run) l4 c4 k4, b__end_of_run := (fun_mk (st := s__end_of_run) l4 c4 k4).binds (ps := ["text", "place", "allowed"]) fun _ _ _ _ _ _ us hl => match us, hl with | [_, _, _], _ => rfl, g__end_of_run := PySem.W.mg_of X G a4,
    a__number_at := f5, d__number_at := _, F__number_at := fun_mk (st := s__number_at) l5 c5 k5, b__number_at := (fun_mk (st := s__number_at) l5 c5 k5).binds (ps := ["text", "place"]) fun _ _ _ _ _ _ us hl => match us, hl with | [_, _], _ => rfl, g__number_at := PySem.W.mg_of X G a5,
    a__name_at := f6, d__name_at := _, F__name_at := fun_mk (st := s__name_at) l6 c6 k6, b__name_at := (fun_mk (st := s__name_at) l6 c6 k6).binds (ps := ["text", "place"]) fun _ _ _ _ _ _ us hl => match us, hl with | [_, _], _ => rfl, g__name_at := PySem.W.mg_of X G a6,
    a__choice_at := f7, d__choice_at := _, F__choice_at := fun_mk (st := s__choice_at) l7 c7 k7, b__choice_at := (fun_mk (st := s__choice_at) l7 c7 k7).binds (ps := ["text", "place"]) fun _ _ _ _ _ _ us hl => match us, hl with | [_, _], _ => rfl, g__choice_at := PySem.W.mg_of X G a7,
    a__above_at := f8, d__above_at := _, F__above_at := fun_mk (st := s__above_at) l8 c8 k8, b__above_at := (fun_mk (st := s__above_at) l8 c8 k8).binds (ps := ["text", "place"]) fun _ _ _ _ _ _ us hl => match us, hl with | [_, _], _ => rfl, g__above_at := PySem.W.mg_of X G a8,
    a__symbol_at := f9, d__symbol_at := _, F__symbol_at := fun_mk (st := s__symbol_at) l9 c9 k9, b__symbol_at := (fun_mk (st := s__symbol_at) l9 c9 k9).binds (ps := ["text", "place"]) fun _ _ _ _ _ _ us hl => match us, hl with | [_, _], _ => rfl, g__symbol_at := PySem.W.mg_of X G a9,
    a__law_tape := f10, d__law_tape := _, F__law_tape := fun_mk (st := s__law_tape) l10 c10 k10, b__law_tape := (fun_mk (st := s__law_tape) l10 c10 k10).binds (ps := ["script"]) fun _ _ _ _ _ _ us hl => match us, hl with | [_], _ => rfl, g__law_tape := PySem.W.mg_of X G a10,
    a__law_draw := f11, d__law_draw := _, F__law_draw := fun_mk (st := s__law_draw) l11 c11 k11, b__law_draw := (fun_mk (st := s__law_draw) l11 c11 k11).binds (ps := ["tape", "many"]) fun _ _ _ _ _ _ us hl => match us, hl with | [_, _], _ => rfl, g__law_draw := PySem.W.mg_of X G a11,
    a__law_pick := f12, d__law_pick := _, F__law_pick := fun_mk (st := s__law_pick) l12 c12 k12, b__law_pick := (fun_mk (st := s__law_pick) l12 c12 k12).binds (ps := ["tape", "row"]) fun _ _ _ _ _ _ us hl => match us, hl with | [_, _], _ => rfl, g__law_pick := PySem.W.mg_of X G a12,
    a__law_same := f13, d__law_same := _, F__law_same := fun_mk (st := s__law_same) l13 c13 k13, b__law_same := (fun_mk (st := s__law_same) l13 c13 k13).binds (ps := ["actual", "expected"]) fun _ _ _ _ _ _ us hl => match us, hl with | [_, _], _ => rfl, g__law_same := PySem.W.mg_of X G a13,
    a__law_single := f14, d__law_single := _, F__law_single := fun_mk (st := s__law_single) l14 c14 k14, b__law_single := (fun_mk (st := s__law_single) l14 c14 k14).binds (ps := ["e"]) fun _ _ _ _ _ _ us hl => match us, hl with | [_], _ => rfl, g__law_single := PySem.W.mg_of X G a14,
    a__law_gcd := f15, d__law_gcd := _, F__law_gcd := fun_mk (st := s__law_gcd) l15 c15 k15, b__law_gcd := (fun_mk (st := s__law_gcd) l15 c15 k15).binds (ps := ["a", "b"]) fun _ _ _ _ _ _ us hl => match us, hl with | [_, _], _ => rfl, g__law_gcd := PySem.W.mg_of X G a15,
    a__law_fraction := f16, d__law_fraction := _, F__law_fraction := fun_mk (st := s__law_fraction) l16 c16 k16, b__law_fraction := (fun_mk (st := s__law_fraction) l16 c16 k16).binds (ps := ["n", "d"]) fun _ _ _ _ _ _ us hl => match us, hl with | [_, _], _ => rfl, g__law_fraction := PySem.W.mg_of X G a16,
    a__law_end_of := f17, d__law_end_of := _, F__law_end_of := fun_mk (st := s__law_end_of) l17 c17 k17, b__law_end_of := (fun_mk (st := s__law_end_of) l17 c17 k17).binds (ps := ["text", "at", "signs"]) fun _ _ _ _ _ _ us hl => match us, hl with | [_, _, _], _ => rfl, g__law_end_of := PySem.W.mg_of X G a17,
    a__law_number_token := f18, d__law_number_token := _, F__law_number_token := fun_mk (st := s__law_number_token) l18 c18 k18, b__law_number_token := (fun_mk (st := s__law_number_token) l18 c18 k18).binds (ps := ["text", "at"]) fun _ _ _ _ _ _ us hl => match us, hl with | [_, _], _ => rfl, g__law_number_token := PySem.W.mg_of X G a18,
    a__law_token := f19, d__law_token := _, F__law_token := fun_mk (st := s__law_token) l19 c19 k19, b__law_token := (fun_mk (st := s__law_token) l19 c19 k19).binds (ps := ["text", "at"]) fun _ _ _ _ _ _ us hl => match us, hl with | [_, _], _ => rfl, g__law_token := PySem.W.mg_of X G a19,
    a__law_split := f20, d__law_split := _, F__law_split := fun_mk (st := s__law_split) l20 c20 k20, b__law_split := (fun_mk (st := s__law_split) l20 c20 k20).binds (ps := ["text"]) fun _ _ _ _ _ _ us hl => match us, hl with | [_], _ => rfl, g__law_split := PySem.W.mg_of X G a20,
    a__law_piece := f21, d__law_piece := _, F__law_piece := fun_mk (st := s__law_piece) l21 c21 k21, b__law_piece := (fun_mk (st := s__law_piece) l21 c21 k21).binds (ps := ["tape"]) fun _ _ _ _ _ _ us hl => match us, hl with | [_], _ => rfl, g__law_piece := PySem.W.mg_of X G a21,
    a__law_flaw := f22, d__law_flaw := _, F__law_flaw := fun_mk (st := s__law_flaw) l22 c22 k22, b__law_flaw := (fun_mk (st := s__law_flaw) l22 c22 k22).binds (ps := ["tape"]) fun _ _ _ _ _ _ us hl => match us, hl with | [_], _ => rfl, g__law_flaw := PySem.W.mg_of X G a22,
    a__law_split_alike := f23, d__law_split_alike := _, F__law_split_alike := fun_mk (st := s__law_split_alike) l23 c23 k23, b__law_split_alike := (fun_mk (st := s__law_split_alike) l23 c23 k23).binds (ps := ["text"]) fun _ _ _ _ _ _ us hl => match us, hl with | [_], _ => rfl, g__law_split_alike := PySem.W.mg_of X G a23,
    a_law := f24, d_law := _, F_law := fun_mk (st := s_law) l24 c24 k24, b_law := (fun_mk (st := s_law) l24 c24 k24).binds (ps := ["script"]) fun _ _ _ _ _ _ us hl => match us, hl with | [_], _ => rfl, g_law := PySem.W.mg_of X G a24,
    c_LONG_SYMBOLS := gc_tup (PySem.W.mg_of X G nK0) mK0 vK0 wK0,
    c_SHORT_SYMBOLS := gc_tup (PySem.W.mg_of X G nK1) mK1 vK1 wK1,
    c_DIGITS := gc_flat (PySem.W.mg_of X G nK2) vK2,
    c_MOST_DIGITS := gc_flat (PySem.W.mg_of X G nK3) vK3,
    c_LETTERS := gc_flat (PySem.W.mg_of X G nK4) vK4,
    c_MOST_CHARACTERS := gc_flat (PySem.W.mg_of X G nK5) vK5,
    c_RESERVED_WORDS := gc_tup (PySem.W.mg_of X G nK6) mK6 vK6 wK6,
    c_ABOVE := gc_flat (PySem.W.mg_of X G nK7) vK7,
    cl_FractionError := cf0, gc_FractionError := PySem.W.mg_of X G ca0,
    cl_FormulaError := cf1, gc_FormulaError := PySem.W.mg_of X G ca1,
    cl_DefinitionError := cf2, gc_DefinitionError := PySem.W.mg_of X G ca2,
    cl_TooLarge := cf3, gc_TooLarge := PySem.W.mg_of X G ca3,
    cl_InputsDiffer := cf4, gc_InputsDiffer := PySem.W.mg_of X G ca4,
    cl_BadPlace := cf5, gc_BadPlace := PySem.W.mg_of X G ca5,
    cl_IsFold := cf6, gc_IsFold := PySem.W.mg_of X G ca6,
    cl_TooMany := cf7, gc_TooMany := PySem.W.mg_of X G ca7,
    cl_NothingToFold := cf8, gc_NothingToFold := PySem.W.mg_of X G ca8,
    cl_NothingToUndo := cf9, gc_NothingToUndo := PySem.W.mg_of X G ca9,
    cl_NothingToRedo := cf10, gc_NothingToRedo := PySem.W.mg_of X G ca10,
    cl_NotDetermined := cf11, gc_NotDetermined := PySem.W.mg_of X G ca11,
    cl_NotConverted := cf12, gc_NotConverted := PySem.W.mg_of X G ca12,
    cl_BadFile := cf13, gc_BadFile := PySem.W.mg_of X G ca13,
    cl_SheetError := cf14, gc_SheetError := PySem.W.mg_of X G ca14,
    q_FormulaError := ⟨ef0, PySem.W.mg_of X G ea0, eb0, ec0, ed0, ee0, eg0, eh0, ei0, ej0, ek0⟩,
    i_FormulaError := ⟨ef0, xf0, _, PySem.W.mg_of X G ea0, oexC_of eu0 eo0 ee0 em0 el0, ep0, eq0, no_of2 ev_place_0 ev_reason_0⟩, F_FormulaError := fun_mk (st := s_FormulaError) er0 es0 et0, b_FormulaError := (fun_mk (st := s_FormulaError) er0 es0 et0).binds (ps := ["self", "place", "reason"]) fun _ _ _ _ _ _ us hl => match us, hl with | [_, _, _], _ => rfl,
    n_FormulaError_place := ev_place_0,
    n_FormulaError_reason := ev_reason_0,
    x_FormulaError_FractionError := xp_0_FractionError,
    x_FormulaError_FormulaError := xp_0_FormulaError,
    x_FormulaError_DefinitionError := xp_0_DefinitionError,
    x_FormulaError_TooLarge := xp_0_TooLarge,
    x_FormulaError_InputsDiffer := xp_0_InputsDiffer,
    x_FormulaError_BadPlace := xp_0_BadPlace,
    x_FormulaError_IsFold := xp_0_IsFold,
    x_FormulaError_TooMany := xp_0_TooMany,
    x_FormulaError_NothingToFold := xp_0_NothingToFold,
    x_FormulaError_NothingToUndo := xp_0_NothingToUndo,
    x_FormulaError_NothingToRedo := xp_0_NothingToRedo,
    x_FormulaError_NotDetermined := xp_0_NotDetermined,
    x_FormulaError_NotConverted := xp_0_NotConverted,
    x_FormulaError_BadFile := xp_0_BadFile,
    x_FormulaError_SheetError := xp_0_SheetError,
    x_FormulaError_ValueError := xp_0_ValueError,
    k_SheetError := k_of [("FormulaError", ef0)] (by rfl) (⟨PySem.W.mg_of X G ea0, xk_0_SheetError, trivial⟩),
    z_len := PySem.W.mg_none_of X G z0,
    z_int := PySem.W.mg_none_of X G z1,
    z_tuple := PySem.W.mg_none_of X G z2,
    z_abs := PySem.W.mg_none_of X G z3,
    z_list := PySem.W.mg_none_of X G z4,
    z_max := PySem.W.mg_none_of X G z5,
    z_isinstance := PySem.W.mg_none_of X G z6,
    z_range := PySem.W.mg_none_of X G z7,
    z_bool := PySem.W.mg_none_of X G z8,
    z_str := PySem.W.mg_none_of X G z9,
    z_ValueError := PySem.W.mg_none_of X G z10,
    z_min := PySem.W.mg_none_of X G z11,
    q_gcd := PySem.W.mg_of X G q0 }
theorem all_mk {l : PySem.W.OpenLaw} {w : World} {K : PySem.W.Frag} {h : Heap} {mg : Str → Option Value} {fa f1 f2 f3 f4 f5 f6 f7 f8 f9 f10 f11 f12 f13 f14 f15 f16 f17 f18 f19 f20 f21 f22 f23 f24 : Addr} (X : K.In h) (G : h.Ns mainGlobals mg) (hfa : mg "law" = some (.ref fa))
    {od1 an1 : Option Addr} {sl1 : Array (Option Value)} {oc1 kV1 dc1 pm1 cd1 ct1 : Value}
    {od2 an2 : Option Addr} {sl2 : Array (Option Value)} {oc2 kV2 dc2 pm2 cd2 ct2 : Value}
    {od3 an3 : Option Addr} {sl3 : Array (Option Value)} {oc3 kV3 dc3 pm3 cd3 ct3 : Value}
    {od4 an4 : Option Addr} {sl4 : Array (Option Value)} {oc4 kV4 dc4 pm4 cd4 ct4 : Value}
    {od5 an5 : Option Addr} {sl5 : Array (Option Value)} {oc5 kV5 dc5 pm5 cd5 ct5 : Value}
    {od6 an6 : Option Addr} {sl6 : Array (Option Value)} {oc6 kV6 dc6 pm6 cd6 ct6 : Value}
    {od7 an7 : Option Addr} {sl7 : Array (Option Value)} {oc7 kV7 dc7 pm7 cd7 ct7 : Value}
    {od8 an8 : Option Addr} {sl8 : Array (Option Value)} {oc8 kV8 dc8 pm8 cd8 ct8 : Value}
    {od9 an9 : Option Addr} {sl9 : Array (Option Value)} {oc9 kV9 dc9 pm9 cd9 ct9 : Value}
    {od10 an10 : Option Addr} {sl10 : Array (Option Value)} {oc10 kV10 dc10 pm10 cd10 ct10 : Value}
    {od11 an11 : Option Addr} {sl11 : Array (Option Value)} {oc11 kV11 dc11 pm11 cd11 ct11 : Value}
    {od12 an12 : Option Addr} {sl12 : Array (Option Value)} {oc12 kV12 dc12 pm12 cd12 ct12 : Value}
    {od13 an13 : Option Addr} {sl13 : Array (Option Value)} {oc13 kV13 dc13 pm13 cd13 ct13 : Value}
    {od14 an14 : Option Addr} {sl14 : Array (Option Value)} {oc14 kV14 dc14 pm14 cd14 ct14 : Value}
    {od15 an15 : Option Addr} {sl15 : Array (Option Value)} {oc15 kV15 dc15 pm15 cd15 ct15 : Value}
    {od16 an16 : Option Addr} {sl16 : Array (Option Value)} {oc16 kV16 dc16 pm16 cd16 ct16 : Value}
    {od17 an17 : Option Addr} {sl17 : Array (Option Value)} {oc17 kV17 dc17 pm17 cd17 ct17 : Value}
    {od18 an18 : Option Addr} {sl18 : Array (Option Value)} {oc18 kV18 dc18 pm18 cd18 ct18 : Value}
    {od19 an19 : Option Addr} {sl19 : Array (Option Value)} {oc19 kV19 dc19 pm19 cd19 ct19 : Value}
    {od20 an20 : Option Addr} {sl20 : Array (Option Value)} {oc20 kV20 dc20 pm20 cd20 ct20 : Value}
    {od21 an21 : Option Addr} {sl21 : Array (Option Value)} {oc21 kV21 dc21 pm21 cd21 ct21 : Value}
    {od22 an22 : Option Addr} {sl22 : Array (Option Value)} {oc22 kV22 dc22 pm22 cd22 ct22 : Value}
    {od23 an23 : Option Addr} {sl23 : Array (Option Value)} {oc23 kV23 dc23 pm23 cd23 ct23 : Value}
    {od24 an24 : Option Addr} {sl24 : Array (Option Value)} {oc24 kV24 dc24 pm24 cd24 ct24 : Value}
    {uc0 : Addr} {ud0 : Option Addr} {ui0 : Array Value} {un0 : Nat} {ul0 : Array (Option Value)}
    {uc1 : Addr} {ud1 : Option Addr} {ui1 : Array Value} {un1 : Nat} {ul1 : Array (Option Value)}
    {uu2 : Value}
    {uu3 : Value}
    {uu4 : Value}
    {uu5 : Value}
    {uc6 : Addr} {ud6 : Option Addr} {ui6 : Array Value} {un6 : Nat} {ul6 : Array (Option Value)}
    {uu7 : Value}
    {cf0 : Addr}
    {cf1 : Addr}
    {cf2 : Addr}
    {cf3 : Addr}
    {cf4 : Addr}
    {cf5 : Addr}
    {cf6 : Addr}
    {cf7 : Addr}
    {cf8 : Addr}
    {cf9 : Addr}
    {cf10 : Addr}
    {cf11 : Addr}
    {cf12 : Addr}
    {cf13 : Addr}
    {cf14 : Addr}
    {ef0 : Addr} {xf0 : Addr} {xod0 xan0 : Option Addr} {xsl0 : Array (Option Value)} {xoc0 xkV0 xdc0 xpm0 xcd0 xct0 : Value}
    
    
    
    
    
    
    
    
    
    
    
    
    
    
    
    
    
    (a1 : PySem.W.nsIn K mainGlobals "fraction" = some (some (.ref f1))) (l1 : K.lookup f1 = some ⟨oc1, od1, .func (PySem.W.fnOf "fraction" "fraction" (defArgs s_fraction) (defBody s_fraction) (defScope s_fraction) .none kV1 dc1 pm1 an1 cd1 ct1), sl1⟩) (c1 : PySem.W.codeIn K cd1 "fraction" = true) (k1 : PySem.W.keepIn K (.ref f1) = true)
    (a2 : PySem.W.nsIn K mainGlobals "split_text" = some (some (.ref f2))) (l2 : K.lookup f2 = some ⟨oc2, od2, .func (PySem.W.fnOf "split_text" "split_text" (defArgs s_split_text) (defBody s_split_text) (defScope s_split_text) .none kV2 dc2 pm2 an2 cd2 ct2), sl2⟩) (c2 : PySem.W.codeIn K cd2 "split_text" = true) (k2 : PySem.W.keepIn K (.ref f2) = true)
    (a3 : PySem.W.nsIn K mainGlobals "_token_at" = some (some (.ref f3))) (l3 : K.lookup f3 = some ⟨oc3, od3, .func (PySem.W.fnOf "_token_at" "_token_at" (defArgs s__token_at) (defBody s__token_at) (defScope s__token_at) .none kV3 dc3 pm3 an3 cd3 ct3), sl3⟩) (c3 : PySem.W.codeIn K cd3 "_token_at" = true) (k3 : PySem.W.keepIn K (.ref f3) = true)
    (a4 : PySem.W.nsIn K mainGlobals "_end_of_run" = some (some (.ref f4))) (l4 : K.lookup f4 = some ⟨oc4, od4, .func (PySem.W.fnOf "_end_of_run" "_end_of_run" (defArgs s__end_of_run) (defBody s__end_of_run) (defScope s__end_of_run) .none kV4 dc4 pm4 an4 cd4 ct4), sl4⟩) (c4 : PySem.W.codeIn K cd4 "_end_of_run" = true) (k4 : PySem.W.keepIn K (.ref f4) = true)
    (a5 : PySem.W.nsIn K mainGlobals "_number_at" = some (some (.ref f5))) (l5 : K.lookup f5 = some ⟨oc5, od5, .func (PySem.W.fnOf "_number_at" "_number_at" (defArgs s__number_at) (defBody s__number_at) (defScope s__number_at) .none kV5 dc5 pm5 an5 cd5 ct5), sl5⟩) (c5 : PySem.W.codeIn K cd5 "_number_at" = true) (k5 : PySem.W.keepIn K (.ref f5) = true)
    (a6 : PySem.W.nsIn K mainGlobals "_name_at" = some (some (.ref f6))) (l6 : K.lookup f6 = some ⟨oc6, od6, .func (PySem.W.fnOf "_name_at" "_name_at" (defArgs s__name_at) (defBody s__name_at) (defScope s__name_at) .none kV6 dc6 pm6 an6 cd6 ct6), sl6⟩) (c6 : PySem.W.codeIn K cd6 "_name_at" = true) (k6 : PySem.W.keepIn K (.ref f6) = true)
    (a7 : PySem.W.nsIn K mainGlobals "_choice_at" = some (some (.ref f7))) (l7 : K.lookup f7 = some ⟨oc7, od7, .func (PySem.W.fnOf "_choice_at" "_choice_at" (defArgs s__choice_at) (defBody s__choice_at) (defScope s__choice_at) .none kV7 dc7 pm7 an7 cd7 ct7), sl7⟩) (c7 : PySem.W.codeIn K cd7 "_choice_at" = true) (k7 : PySem.W.keepIn K (.ref f7) = true)
    (a8 : PySem.W.nsIn K mainGlobals "_above_at" = some (some (.ref f8))) (l8 : K.lookup f8 = some ⟨oc8, od8, .func (PySem.W.fnOf "_above_at" "_above_at" (defArgs s__above_at) (defBody s__above_at) (defScope s__above_at) .none kV8 dc8 pm8 an8 cd8 ct8), sl8⟩) (c8 : PySem.W.codeIn K cd8 "_above_at" = true) (k8 : PySem.W.keepIn K (.ref f8) = true)
    (a9 : PySem.W.nsIn K mainGlobals "_symbol_at" = some (some (.ref f9))) (l9 : K.lookup f9 = some ⟨oc9, od9, .func (PySem.W.fnOf "_symbol_at" "_symbol_at" (defArgs s__symbol_at) (defBody s__symbol_at) (defScope s__symbol_at) .none kV9 dc9 pm9 an9 cd9 ct9), sl9⟩) (c9 : PySem.W.codeIn K cd9 "_symbol_at" = true) (k9 : PySem.W.keepIn K (.ref f9) = true)
    (a10 : PySem.W.nsIn K mainGlobals "_law_tape" = some (some (.ref f10))) (l10 : K.lookup f10 = some ⟨oc10, od10, .func (PySem.W.fnOf "_law_tape" "_law_tape" (defArgs s__law_tape) (defBody s__law_tape) (defScope s__law_tape) .none kV10 dc10 pm10 an10 cd10 ct10), sl10⟩) (c10 : PySem.W.codeIn K cd10 "_law_tape" = true) (k10 : PySem.W.keepIn K (.ref f10) = true)
    (a11 : PySem.W.nsIn K mainGlobals "_law_draw" = some (some (.ref f11))) (l11 : K.lookup f11 = some ⟨oc11, od11, .func (PySem.W.fnOf "_law_draw" "_law_draw" (defArgs s__law_draw) (defBody s__law_draw) (defScope s__law_draw) .none kV11 dc11 pm11 an11 cd11 ct11), sl11⟩) (c11 : PySem.W.codeIn K cd11 "_law_draw" = true) (k11 : PySem.W.keepIn K (.ref f11) = true)
    (a12 : PySem.W.nsIn K mainGlobals "_law_pick" = some (some (.ref f12))) (l12 : K.lookup f12 = some ⟨oc12, od12, .func (PySem.W.fnOf "_law_pick" "_law_pick" (defArgs s__law_pick) (defBody s__law_pick) (defScope s__law_pick) .none kV12 dc12 pm12 an12 cd12 ct12), sl12⟩) (c12 : PySem.W.codeIn K cd12 "_law_pick" = true) (k12 : PySem.W.keepIn K (.ref f12) = true)
    (a13 : PySem.W.nsIn K mainGlobals "_law_same" = some (some (.ref f13))) (l13 : K.lookup f13 = some ⟨oc13, od13, .func (PySem.W.fnOf "_law_same" "_law_same" (defArgs s__law_same) (defBody s__law_same) (defScope s__law_same) .none kV13 dc13 pm13 an13 cd13 ct13), sl13⟩) (c13 : PySem.W.codeIn K cd13 "_law_same" = true) (k13 : PySem.W.keepIn K (.ref f13) = true)
    (a14 : PySem.W.nsIn K mainGlobals "_law_single" = some (some (.ref f14))) (l14 : K.lookup f14 = some ⟨oc14, od14, .func (PySem.W.fnOf "_law_single" "_law_single" (defArgs s__law_single) (defBody s__law_single) (defScope s__law_single) .none kV14 dc14 pm14 an14 cd14 ct14), sl14⟩) (c14 : PySem.W.codeIn K cd14 "_law_single" = true) (k14 : PySem.W.keepIn K (.ref f14) = true)
    (a15 : PySem.W.nsIn K mainGlobals "_law_gcd" = some (some (.ref f15))) (l15 : K.lookup f15 = some ⟨oc15, od15, .func (PySem.W.fnOf "_law_gcd" "_law_gcd" (defArgs s__law_gcd) (defBody s__law_gcd) (defScope s__law_gcd) .none kV15 dc15 pm15 an15 cd15 ct15), sl15⟩) (c15 : PySem.W.codeIn K cd15 "_law_gcd" = true) (k15 : PySem.W.keepIn K (.ref f15) = true)
    (a16 : PySem.W.nsIn K mainGlobals "_law_fraction" = some (some (.ref f16))) (l16 : K.lookup f16 = some ⟨oc16, od16, .func (PySem.W.fnOf "_law_fraction" "_law_fraction" (defArgs s__law_fraction) (defBody s__law_fraction) (defScope s__law_fraction) .none kV16 dc16 pm16 an16 cd16 ct16), sl16⟩) (c16 : PySem.W.codeIn K cd16 "_law_fraction" = true) (k16 : PySem.W.keepIn K (.ref f16) = true)
    (a17 : PySem.W.nsIn K mainGlobals "_law_end_of" = some (some (.ref f17))) (l17 : K.lookup f17 = some ⟨oc17, od17, .func (PySem.W.fnOf "_law_end_of" "_law_end_of" (defArgs s__law_end_of) (defBody s__law_end_of) (defScope s__law_end_of) .none kV17 dc17 pm17 an17 cd17 ct17), sl17⟩) (c17 : PySem.W.codeIn K cd17 "_law_end_of" = true) (k17 : PySem.W.keepIn K (.ref f17) = true)
    (a18 : PySem.W.nsIn K mainGlobals "_law_number_token" = some (some (.ref f18))) (l18 : K.lookup f18 = some ⟨oc18, od18, .func (PySem.W.fnOf "_law_number_token" "_law_number_token" (defArgs s__law_number_token) (defBody s__law_number_token) (defScope s__law_number_token) .none kV18 dc18 pm18 an18 cd18 ct18), sl18⟩) (c18 : PySem.W.codeIn K cd18 "_law_number_token" = true) (k18 : PySem.W.keepIn K (.ref f18) = true)
    (a19 : PySem.W.nsIn K mainGlobals "_law_token" = some (some (.ref f19))) (l19 : K.lookup f19 = some ⟨oc19, od19, .func (PySem.W.fnOf "_law_token" "_law_token" (defArgs s__law_token) (defBody s__law_token) (defScope s__law_token) .none kV19 dc19 pm19 an19 cd19 ct19), sl19⟩) (c19 : PySem.W.codeIn K cd19 "_law_token" = true) (k19 : PySem.W.keepIn K (.ref f19) = true)
    (a20 : PySem.W.nsIn K mainGlobals "_law_split" = some (some (.ref f20))) (l20 : K.lookup f20 = some ⟨oc20, od20, .func (PySem.W.fnOf "_law_split" "_law_split" (defArgs s__law_split) (defBody s__law_split) (defScope s__law_split) .none kV20 dc20 pm20 an20 cd20 ct20), sl20⟩) (c20 : PySem.W.codeIn K cd20 "_law_split" = true) (k20 : PySem.W.keepIn K (.ref f20) = true)
    (a21 : PySem.W.nsIn K mainGlobals "_law_piece" = some (some (.ref f21))) (l21 : K.lookup f21 = some ⟨oc21, od21, .func (PySem.W.fnOf "_law_piece" "_law_piece" (defArgs s__law_piece) (defBody s__law_piece) (defScope s__law_piece) .none kV21 dc21 pm21 an21 cd21 ct21), sl21⟩) (c21 : PySem.W.codeIn K cd21 "_law_piece" = true) (k21 : PySem.W.keepIn K (.ref f21) = true)
    (a22 : PySem.W.nsIn K mainGlobals "_law_flaw" = some (some (.ref f22))) (l22 : K.lookup f22 = some ⟨oc22, od22, .func (PySem.W.fnOf "_law_flaw" "_law_flaw" (defArgs s__law_flaw) (defBody s__law_flaw) (defScope s__law_flaw) .none kV22 dc22 pm22 an22 cd22 ct22), sl22⟩) (c22 : PySem.W.codeIn K cd22 "_law_flaw" = true) (k22 : PySem.W.keepIn K (.ref f22) = true)
    (a23 : PySem.W.nsIn K mainGlobals "_law_split_alike" = some (some (.ref f23))) (l23 : K.lookup f23 = some ⟨oc23, od23, .func (PySem.W.fnOf "_law_split_alike" "_law_split_alike" (defArgs s__law_split_alike) (defBody s__law_split_alike) (defScope s__law_split_alike) .none kV23 dc23 pm23 an23 cd23 ct23), sl23⟩) (c23 : PySem.W.codeIn K cd23 "_law_split_alike" = true) (k23 : PySem.W.keepIn K (.ref f23) = true)
    (a24 : PySem.W.nsIn K mainGlobals "law" = some (some (.ref f24))) (l24 : K.lookup f24 = some ⟨oc24, od24, .func (PySem.W.fnOf "law" "law" (defArgs s_law) (defBody s_law) (defScope s_law) .none kV24 dc24 pm24 an24 cd24 ct24), sl24⟩) (c24 : PySem.W.codeIn K cd24 "law" = true) (k24 : PySem.W.keepIn K (.ref f24) = true)
    (nK0 : PySem.W.nsIn K mainGlobals "LONG_SYMBOLS" = some (some (.ref uc0))) (mK0 : K.lookup uc0 = some ⟨.type "tuple", ud0, .seq ui0 un0, ul0⟩) (vK0 : dRow ui0.toList = some [(.str "<="), (.str "<>"), (.str ">=")]) (wK0 : ui0.toList.length ≤ 1000)
    (nK1 : PySem.W.nsIn K mainGlobals "SHORT_SYMBOLS" = some (some (.ref uc1))) (mK1 : K.lookup uc1 = some ⟨.type "tuple", ud1, .seq ui1 un1, ul1⟩) (vK1 : dRow ui1.toList = some [(.str "("), (.str ")"), (.str ","), (.str "+"), (.str "-"), (.str "*"), (.str "/"), (.str "<"), (.str "="), (.str ">")]) (wK1 : ui1.toList.length ≤ 1000)
    (nK2 : PySem.W.nsIn K mainGlobals "DIGITS" = some (some uu2)) (vK2 : dOf uu2 = some (.str "0123456789"))
    (nK3 : PySem.W.nsIn K mainGlobals "MOST_DIGITS" = some (some uu3)) (vK3 : dOf uu3 = some (.int 9))
    (nK4 : PySem.W.nsIn K mainGlobals "LETTERS" = some (some uu4)) (vK4 : dOf uu4 = some (.str "ABCDEFGHIJKLMNOPQRSTUVWXYZabcdefghijklmnopqrstuvwxyz"))
    (nK5 : PySem.W.nsIn K mainGlobals "MOST_CHARACTERS" = some (some uu5)) (vK5 : dOf uu5 = some (.int 20))
    (nK6 : PySem.W.nsIn K mainGlobals "RESERVED_WORDS" = some (some (.ref uc6))) (mK6 : K.lookup uc6 = some ⟨.type "tuple", ud6, .seq ui6 un6, ul6⟩) (vK6 : dRow ui6.toList = some [(.str "if"), (.str "and"), (.str "or"), (.str "not"), (.str "sum"), (.str "last"), (.str "floor")]) (wK6 : ui6.toList.length ≤ 1000)
    (nK7 : PySem.W.nsIn K mainGlobals "ABOVE" = some (some uu7)) (vK7 : dOf uu7 = some (.str "[-1]"))
    (ca0 : PySem.W.nsIn K mainGlobals "FractionError" = some (some (.ref cf0)))
    (ca1 : PySem.W.nsIn K mainGlobals "FormulaError" = some (some (.ref cf1)))
    (ca2 : PySem.W.nsIn K mainGlobals "DefinitionError" = some (some (.ref cf2)))
    (ca3 : PySem.W.nsIn K mainGlobals "TooLarge" = some (some (.ref cf3)))
    (ca4 : PySem.W.nsIn K mainGlobals "InputsDiffer" = some (some (.ref cf4)))
    (ca5 : PySem.W.nsIn K mainGlobals "BadPlace" = some (some (.ref cf5)))
    (ca6 : PySem.W.nsIn K mainGlobals "IsFold" = some (some (.ref cf6)))
    (ca7 : PySem.W.nsIn K mainGlobals "TooMany" = some (some (.ref cf7)))
    (ca8 : PySem.W.nsIn K mainGlobals "NothingToFold" = some (some (.ref cf8)))
    (ca9 : PySem.W.nsIn K mainGlobals "NothingToUndo" = some (some (.ref cf9)))
    (ca10 : PySem.W.nsIn K mainGlobals "NothingToRedo" = some (some (.ref cf10)))
    (ca11 : PySem.W.nsIn K mainGlobals "NotDetermined" = some (some (.ref cf11)))
    (ca12 : PySem.W.nsIn K mainGlobals "NotConverted" = some (some (.ref cf12)))
    (ca13 : PySem.W.nsIn K mainGlobals "BadFile" = some (some (.ref cf13)))
    (ca14 : PySem.W.nsIn K mainGlobals "SheetError" = some (some (.ref cf14)))
    (ea0 : PySem.W.nsIn K mainGlobals "FormulaError" = some (some (.ref ef0))) (eb0 : (PySem.W.clsIn K ef0).isSome = true) (ec0 : PySem.W.findIn K (.ref ef0) "__getattribute__" = some (some (.builtin "BaseException.__getattribute__"))) (ed0 : PySem.W.findIn K (.ref ef0) "__getattr__" = some none) (ee0 : PySem.W.subIn K (.ref ef0) (.type "BaseException") = some true) (eg0 : PySem.W.hasDictIn K ef0 = true) (eh0 : PySem.W.findIn K (.ref ef0) "__class__" = some (some (.builtin "object.__class__"))) (ei0 : PySem.W.specialIn K (.builtin "object.__class__") "__get__" = some (some (.builtin "getset_descriptor.__get__"))) (ej0 : PySem.W.takesIn K (.builtin "object.__class__") = some true) (ek0 : PySem.W.mroIn K ef0 (.type "object") = some true) (el0 : PySem.W.keepIn K (.ref ef0) = true) (em0 : PySem.W.typeIn K (.ref ef0) = some (.type "type")) (eo0 : PySem.W.findIn K (.ref ef0) "__setattr__" = some (some (.builtin "object.__setattr__"))) (ep0 : PySem.W.findIn K (.ref ef0) "__init__" = some (some (.ref xf0))) (eq0 : PySem.W.typeIn K (.ref xf0) = some (.type "function")) (er0 : K.lookup xf0 = some ⟨xoc0, xod0, .func (PySem.W.fnOf "__init__" "FormulaError.__init__" (defArgs s_FormulaError) (defBody s_FormulaError) (defScope s_FormulaError) .none xkV0 xdc0 xpm0 xan0 xcd0 xct0), xsl0⟩) (es0 : PySem.W.codeIn K xcd0 "FormulaError.__init__" = true) (et0 : PySem.W.keepIn K (.ref xf0) = true) (eu0 : oexIn K ef0 = true) (ev_place_0 : PySem.W.findIn K (.ref ef0) "place" = some none) (ev_reason_0 : PySem.W.findIn K (.ref ef0) "reason" = some none)
    (xp_0_FractionError : PySem.W.kitOne K (.ref ef0) (.ref cf0) = some false)
    (xp_0_FormulaError : PySem.W.kitOne K (.ref ef0) (.ref cf1) = some true)
    (xp_0_DefinitionError : PySem.W.kitOne K (.ref ef0) (.ref cf2) = some false)
    (xp_0_TooLarge : PySem.W.kitOne K (.ref ef0) (.ref cf3) = some false)
    (xp_0_InputsDiffer : PySem.W.kitOne K (.ref ef0) (.ref cf4) = some false)
    (xp_0_BadPlace : PySem.W.kitOne K (.ref ef0) (.ref cf5) = some false)
    (xp_0_IsFold : PySem.W.kitOne K (.ref ef0) (.ref cf6) = some false)
    (xp_0_TooMany : PySem.W.kitOne K (.ref ef0) (.ref cf7) = some false)
    (xp_0_NothingToFold : PySem.W.kitOne K (.ref ef0) (.ref cf8) = some false)
    (xp_0_NothingToUndo : PySem.W.kitOne K (.ref ef0) (.ref cf9) = some false)
    (xp_0_NothingToRedo : PySem.W.kitOne K (.ref ef0) (.ref cf10) = some false)
    (xp_0_NotDetermined : PySem.W.kitOne K (.ref ef0) (.ref cf11) = some false)
    (xp_0_NotConverted : PySem.W.kitOne K (.ref ef0) (.ref cf12) = some false)
    (xp_0_BadFile : PySem.W.kitOne K (.ref ef0) (.ref cf13) = some false)
    (xp_0_SheetError : PySem.W.kitOne K (.ref ef0) (.ref cf14) = some true)
    (xp_0_ValueError : PySem.W.kitOne K (.ref ef0) (.type "ValueError") = some true)
    (xk_0_SheetError : PySem.W.exmOne K (.ref ef0) (.ref cf14) = some true)
    (z0 : PySem.W.nsIn K mainGlobals "len" = some none) (z1 : PySem.W.nsIn K mainGlobals "int" = some none) (z2 : PySem.W.nsIn K mainGlobals "tuple" = some none) (z3 : PySem.W.nsIn K mainGlobals "abs" = some none) (z4 : PySem.W.nsIn K mainGlobals "list" = some none) (z5 : PySem.W.nsIn K mainGlobals "max" = some none) (z6 : PySem.W.nsIn K mainGlobals "isinstance" = some none) (z7 : PySem.W.nsIn K mainGlobals "range" = some none) (z8 : PySem.W.nsIn K mainGlobals "bool" = some none) (z9 : PySem.W.nsIn K mainGlobals "str" = some none) (z10 : PySem.W.nsIn K mainGlobals "ValueError" = some none) (z11 : PySem.W.nsIn K mainGlobals "min" = some none) (q0 : PySem.W.nsIn K mainGlobals "gcd" = some (some (.builtin "math.gcd"))) :
    ∃ fd : FuncData, (∀ (s : Shared) (v : Value), BindsTo s fd ⟨[v], []⟩ [("script", v)]) ∧ ∀ base : Heap, K.In base → base.Ns mainGlobals mg → FnOk l.prog w K mg base (L2N.CX l.prog w) 14 fa fd ["script"] (spLaw K) := by
  have e := hfa.symm.trans (PySem.W.mg_of X G a24)
  cases e
  exact ⟨PySem.W.fnOf "law" "law" (defArgs s_law) (defBody s_law) (defScope s_law) .none kV24 dc24 pm24 an24 cd24 ct24, fun s v => .of_eq rfl, fun base _ _ => law_ok (ok_law (txt_mk X G a1 l1 c1 k1 a2 l2 c2 k2 a3 l3 c3 k3 a4 l4 c4 k4 a5 l5 c5 k5 a6 l6 c6 k6 a7 l7 c7 k7 a8 l8 c8 k8 a9 l9 c9 k9 a10 l10 c10 k10 a11 l11 c11 k11 a12 l12 c12 k12 a13 l13 c13 k13 a14 l14 c14 k14 a15 l15 c15 k15 a16 l16 c16 k16 a17 l17 c17 k17 a18 l18 c18 k18 a19 l19 c19 k19 a20 l20 c20 k20 a21 l21 c21 k21 a22 l22 c22 k22 a23 l23 c23 k23 a24 l24 c24 k24 nK0 mK0 vK0 wK0 nK1 mK1 vK1 wK1 nK2 vK2 nK3 vK3 nK4 vK4 nK5 vK5 nK6 mK6 vK6 wK6 nK7 vK7 ca0 ca1 ca2 ca3 ca4 ca5 ca6 ca7 ca8 ca9 ca10 ca11 ca12 ca13 ca14 ea0 eb0 ec0 ed0 ee0 eg0 eh0 ei0 ej0 ek0 el0 em0 eo0 ep0 eq0 er0 es0 et0 eu0 ev_place_0 ev_reason_0 xp_0_FractionError xp_0_FormulaError xp_0_DefinitionError xp_0_TooLarge xp_0_InputsDiffer xp_0_BadPlace xp_0_IsFold xp_0_TooMany xp_0_NothingToFold xp_0_NothingToUndo xp_0_NothingToRedo xp_0_NotDetermined xp_0_NotConverted xp_0_BadFile xp_0_SheetError xp_0_ValueError xk_0_SheetError z0 z1 z2 z3 z4 z5 z6 z7 z8 z9 z10 z11 q0)) law_true⟩
end K09
open PySem PySem.W PyProof.Rows
set_option maxHeartbeats 0 in
theorem PySem.Challenge.cw_foldsheet_k09_tokens_holds : PySem.Challenge.rw_foldsheet_k09_tokens.Holds := by
  w_on; o_law; k_head; (case hw => w_witness2)
  k_fill
  refine L2.walk_ofB (l := PySem.Challenge.rw_foldsheet_k09_tokens) (n := 63) (k := 14) (x := "script") (CX := fun w => L2N.CX PySem.Challenge.rw_foldsheet_k09_tokens.prog w) (sp := fun w => Py.spLaw _) rfl (by decide) rfl ⟨rfl, by decide, by decide⟩ (fun w h Y => PySem.W.kIn_of Y) ?F (fun _ _ a ns hl hb hO hS => ⟨a, ns, rfl, hS, hO, hl, hb, fun _ => rfl⟩) (fun _ _ _ _ _ h => Py.noCX h)
  case F =>
    intro w mg fa h KX G hmg
    refine' K09.all_mk KX G hmg ?a1 ?l1 ?c1 ?k1 ?a2 ?l2 ?c2 ?k2 ?a3 ?l3 ?c3 ?k3 ?a4 ?l4 ?c4 ?k4 ?a5 ?l5 ?c5 ?k5 ?a6 ?l6 ?c6 ?k6 ?a7 ?l7 ?c7 ?k7 ?a8 ?l8 ?c8 ?k8 ?a9 ?l9 ?c9 ?k9 ?a10 ?l10 ?c10 ?k10 ?a11 ?l11 ?c11 ?k11 ?a12 ?l12 ?c12 ?k12 ?a13 ?l13 ?c13 ?k13 ?a14 ?l14 ?c14 ?k14 ?a15 ?l15 ?c15 ?k15 ?a16 ?l16 ?c16 ?k16 ?a17 ?l17 ?c17 ?k17 ?a18 ?l18 ?c18 ?k18 ?a19 ?l19 ?c19 ?k19 ?a20 ?l20 ?c20 ?k20 ?a21 ?l21 ?c21 ?k21 ?a22 ?l22 ?c22 ?k22 ?a23 ?l23 ?c23 ?k23 ?a24 ?l24 ?c24 ?k24 ?nK0 ?mK0 ?vK0 ?wK0 ?nK1 ?mK1 ?vK1 ?wK1 ?nK2 ?vK2 ?nK3 ?vK3 ?nK4 ?vK4 ?nK5 ?vK5 ?nK6 ?mK6 ?vK6 ?wK6 ?nK7 ?vK7 ?ca0 ?ca1 ?ca2 ?ca3 ?ca4 ?ca5 ?ca6 ?ca7 ?ca8 ?ca9 ?ca10 ?ca11 ?ca12 ?ca13 ?ca14 ?ea0 ?eb0 ?ec0 ?ed0 ?ee0 ?eg0 ?eh0 ?ei0 ?ej0 ?ek0 ?el0 ?em0 ?eo0 ?ep0 ?eq0 ?er0 ?es0 ?et0 ?eu0 ?ev_place_0 ?ev_reason_0 ?xp_0_FractionError ?xp_0_FormulaError ?xp_0_DefinitionError ?xp_0_TooLarge ?xp_0_InputsDiffer ?xp_0_BadPlace ?xp_0_IsFold ?xp_0_TooMany ?xp_0_NothingToFold ?xp_0_NothingToUndo ?xp_0_NothingToRedo ?xp_0_NotDetermined ?xp_0_NotConverted ?xp_0_BadFile ?xp_0_SheetError ?xp_0_ValueError ?xk_0_SheetError ?z0 ?z1 ?z2 ?z3 ?z4 ?z5 ?z6 ?z7 ?z8 ?z9 ?z10 ?z11 ?q0
    (case a1 => k_is); (case l1 => k_is); (case c1 => k_is); (case k1 => k_is); (case a2 => k_is); (case l2 => k_is); (case c2 => k_is); (case k2 => k_is)
    (case a3 => k_is); (case l3 => k_is); (case c3 => k_is); (case k3 => k_is); (case a4 => k_is); (case l4 => k_is); (case c4 => k_is); (case k4 => k_is)
    (case a5 => k_is); (case l5 => k_is); (case c5 => k_is); (case k5 => k_is); (case a6 => k_is); (case l6 => k_is); (case c6 => k_is); (case k6 => k_is)
    (case a7 => k_is); (case l7 => k_is); (case c7 => k_is); (case k7 => k_is); (case a8 => k_is); (case l8 => k_is); (case c8 => k_is); (case k8 => k_is)
    (case a9 => k_is); (case l9 => k_is); (case c9 => k_is); (case k9 => k_is); (case a10 => k_is); (case l10 => k_is); (case c10 => k_is); (case k10 => k_is)
    (case a11 => k_is); (case l11 => k_is); (case c11 => k_is); (case k11 => k_is); (case a12 => k_is); (case l12 => k_is); (case c12 => k_is); (case k12 => k_is)
    (case a13 => k_is); (case l13 => k_is); (case c13 => k_is); (case k13 => k_is); (case a14 => k_is); (case l14 => k_is); (case c14 => k_is); (case k14 => k_is)
    (case a15 => k_is); (case l15 => k_is); (case c15 => k_is); (case k15 => k_is); (case a16 => k_is); (case l16 => k_is); (case c16 => k_is); (case k16 => k_is)
    (case a17 => k_is); (case l17 => k_is); (case c17 => k_is); (case k17 => k_is); (case a18 => k_is); (case l18 => k_is); (case c18 => k_is); (case k18 => k_is)
    (case a19 => k_is); (case l19 => k_is); (case c19 => k_is); (case k19 => k_is); (case a20 => k_is); (case l20 => k_is); (case c20 => k_is); (case k20 => k_is)
    (case a21 => k_is); (case l21 => k_is); (case c21 => k_is); (case k21 => k_is); (case a22 => k_is); (case l22 => k_is); (case c22 => k_is); (case k22 => k_is)
    (case a23 => k_is); (case l23 => k_is); (case c23 => k_is); (case k23 => k_is); (case a24 => k_is); (case l24 => k_is); (case c24 => k_is); (case k24 => k_is)
    (case nK0 => k_is); (case mK0 => k_is); (case vK0 => rfl); (case wK0 => decide); (case nK1 => k_is); (case mK1 => k_is); (case vK1 => rfl); (case wK1 => decide)
    (case nK2 => k_is); (case vK2 => rfl); (case nK3 => k_is); (case vK3 => rfl); (case nK4 => k_is); (case vK4 => rfl); (case nK5 => k_is); (case vK5 => rfl)
    (case nK6 => k_is); (case mK6 => k_is); (case vK6 => rfl); (case wK6 => decide); (case nK7 => k_is); (case vK7 => rfl); (case ca0 => k_is); (case ca1 => k_is)
    (case ca2 => k_is); (case ca3 => k_is); (case ca4 => k_is); (case ca5 => k_is); (case ca6 => k_is); (case ca7 => k_is); (case ca8 => k_is); (case ca9 => k_is)
    (case ca10 => k_is); (case ca11 => k_is); (case ca12 => k_is); (case ca13 => k_is); (case ca14 => k_is); (case ea0 => k_is); (case eb0 => first | rfl | decide +kernel); (case ec0 => k_is)
    (case ed0 => k_is); (case ee0 => k_is); (case eg0 => k_is); (case eh0 => k_is); (case ei0 => k_is); (case ej0 => k_is); (case ek0 => k_is); (case el0 => k_is)
    (case em0 => k_is); (case eo0 => k_is); (case ep0 => k_is); (case eq0 => k_is); (case er0 => k_is); (case es0 => k_is); (case et0 => k_is); (case eu0 => first | rfl | decide +kernel)
    (case ev_place_0 => k_is); (case ev_reason_0 => k_is); (case xp_0_FractionError => first | rfl | k_is); (case xp_0_FormulaError => first | rfl | k_is); (case xp_0_DefinitionError => first | rfl | k_is); (case xp_0_TooLarge => first | rfl | k_is); (case xp_0_InputsDiffer => first | rfl | k_is); (case xp_0_BadPlace => first | rfl | k_is)
    (case xp_0_IsFold => first | rfl | k_is); (case xp_0_TooMany => first | rfl | k_is); (case xp_0_NothingToFold => first | rfl | k_is); (case xp_0_NothingToUndo => first | rfl | k_is); (case xp_0_NothingToRedo => first | rfl | k_is); (case xp_0_NotDetermined => first | rfl | k_is); (case xp_0_NotConverted => first | rfl | k_is); (case xp_0_BadFile => first | rfl | k_is)
    (case xp_0_SheetError => first | rfl | k_is); (case xp_0_ValueError => first | rfl | k_is); (case xk_0_SheetError => first | rfl | k_is); (case z0 => k_is); (case z1 => k_is); (case z2 => k_is); (case z3 => k_is); (case z4 => k_is)
    (case z5 => k_is); (case z6 => k_is); (case z7 => k_is); (case z8 => k_is); (case z9 => k_is); (case z10 => k_is); (case z11 => k_is); (case q0 => k_is)
