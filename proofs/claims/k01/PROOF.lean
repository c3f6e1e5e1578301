import PyProof.Rows.All
import Wide.All
import OpenK.AllK
import Wide.FinOn
import HandS.Text
import PyProof.Rows.IntBool
import PyProof.CallStr
import HandS.TupMul
import HandS.IsInst
import HandS.Gcd
import HandS.Struct
import HandS.Wide
import HandS.TryOnly
import HandS.More
import HandS.Zip
import HandS.Style
import HandS.TupLe
import HandS.ForMost
import HandS.ForExc
import HandS.TryMany
import KE.SortData
import KE.DataMinMax
import HandS.TupAny
import KE.DataEq
import KE.DataCmp
import PyProof.FitsInt
import Open.Row
import PySem.Challenge.RW_strangerbench_k01_kinds
set_option Elab.async false
set_option linter.all false
set_option maxRecDepth 100000
set_option maxHeartbeats 4000000
namespace Eg
open PySem L2
/-! ### data that a slot has: shared, or owned by the slot alone -/
inductive OD where
  | sh (d : PyData)
  | ol (xs : List PyData)
  | od (kvs : List (Key × PyData))
  | sc (ns : List Int)
def OD.isO : OD → Bool
  | .sh _ => false
  | .sc _ => false
  | .ol _ => true
  | .od _ => true
abbrev Rho := List (Option OD)
structure Xc where
  cls : Nat
  flds : List PyData
inductive Res (α : Type) where
  | ok (a : α) (r : Rho)
  | ex (x : Xc) (r : Rho)
  | bad
abbrev M (α : Type) := Rho → Res α
def M.bind {α β : Type} (m : M α) (f : α → M β) : M β := fun ρ => match m ρ with
  | .ok a ρ' => f a ρ'
  | .ex x ρ' => .ex x ρ'
  | .bad => .bad
def M.ret {α : Type} (a : α) : M α := fun ρ => .ok a ρ
def M.bad {α : Type} : M α := fun _ => .bad
def M.lift {α : Type} : Option α → M α
  | some a => M.ret a
  | none => M.bad
/-! ### relations -/
mutual
inductive DV (K : PySem.W.Frag) (H : Hp) : V → PyData → Prop
  | non : DV K H .non .none
  | bl (b : Bool) : DV K H (.bl b) (.bool b)
  | int (i : Int) : DV K H (.int i) (.int i)
  | str (x : Str) : DV K H (.str x) (.str x)
  | lst {a : Addr} {xs : List V} {ds : List PyData} : H a = some (.lst xs) → DVs K H xs ds → DV K H (.ref a) (.list ds)
  | tup {a : Addr} {xs : List V} {ds : List PyData} : SqT K H a xs → DVs K H xs ds → DV K H (.ref a) (.tuple ds)
inductive DVs (K : PySem.W.Frag) (H : Hp) : List V → List PyData → Prop
  | nil : DVs K H [] []
  | cons {v : V} {vs : List V} {d : PyData} {ds : List PyData} : DV K H v d → DVs K H vs ds → DVs K H (v :: vs) (d :: ds)
end
section
variable {K : PySem.W.Frag}
theorem _root_.L2.Same.sqT {K : PySem.W.Frag} {H H' : Hp} {a : Addr} {xs : List V} (e : Same H H') (h : SqT K H a xs) : SqT K H' a xs := by
  rcases h with (h | ⟨o, h⟩) | h
  · exact .inl (.inl (e _ _ h))
  · exact .inl (.inr ⟨o, e _ _ h⟩)
  · exact .inr h
mutual
theorem DV.mono {H H' : Hp} (e : Same H H') : ∀ {v : V} {d : PyData}, DV K H v d → DV K H' v d
  | _, _, .non => .non
  | _, _, .bl b => .bl b
  | _, _, .int i => .int i
  | _, _, .str x => .str x
  | _, _, .lst h1 h2 => .lst (e _ _ h1) (DVs.mono e h2)
  | _, _, .tup h1 h2 => .tup (e.sqT h1) (DVs.mono e h2)
theorem DVs.mono {H H' : Hp} (e : Same H H') : ∀ {vs : List V} {ds : List PyData}, DVs K H vs ds → DVs K H' vs ds
  | _, _, .nil => .nil
  | _, _, .cons h1 h2 => .cons (DV.mono e h1) (DVs.mono e h2)
end
mutual
theorem DV.dp {H : Hp} : ∀ {v : V} {d : PyData}, DV K H v d → L2.Dp K H v d
  | _, _, .non => .non
  | _, _, .bl b => .bl b
  | _, _, .int i => .int i
  | _, _, .str x => .str x
  | _, _, .lst h1 h2 => .lst (SqL.of h1) (DVs.dp h2)
  | _, _, .tup h1 h2 => .tup h1 (DVs.dp h2)
theorem DVs.dp {H : Hp} : ∀ {vs : List V} {ds : List PyData}, DVs K H vs ds → L2.DpAll K H vs ds
  | _, _, .nil => .nil
  | _, _, .cons h1 h2 => .cons (DV.dp h1) (DVs.dp h2)
end
theorem DVs.len {H : Hp} : ∀ {vs : List V} {ds : List PyData}, DVs K H vs ds → vs.length = ds.length
  | _, _, .nil => rfl
  | _, _, .cons _ h => by rw [List.length_cons, List.length_cons, DVs.len h]
theorem DVs.append {H : Hp} : ∀ {vs ws : List V} {ds es : List PyData}, DVs K H vs ds → DVs K H ws es → DVs K H (vs ++ ws) (ds ++ es)
  | _, _, _, _, .nil, h => h
  | _, _, _, _, .cons h1 h2, h => .cons h1 (DVs.append h2 h)
theorem DVs.get {H : Hp} : ∀ {vs : List V} {ds : List PyData} {i : Nat} {d : PyData}, DVs K H vs ds → ds[i]? = some d → ∃ v, vs[i]? = some v ∧ DV K H v d
  | _, _, _, _, .nil, e => by simp at e
  | _, _, 0, _, .cons h _, e => by simp at e; subst e; exact ⟨_, rfl, h⟩
  | _, _, i + 1, d, .cons _ h, e => by
    obtain ⟨v, h1, h2⟩ := DVs.get (i := i) (d := d) h (by simpa using e)
    exact ⟨v, by simpa using h1, h2⟩
theorem DVs.get' {H : Hp} : ∀ {vs : List V} {ds : List PyData} {i : Nat} {v : V}, DVs K H vs ds → vs[i]? = some v → ∃ d, ds[i]? = some d ∧ DV K H v d
  | _, _, _, _, .nil, e => by simp at e
  | _, _, 0, _, .cons h _, e => by simp at e; subst e; exact ⟨_, rfl, h⟩
  | _, _, i + 1, v, .cons _ h, e => by
    obtain ⟨d, h1, h2⟩ := DVs.get' (i := i) (v := v) h (by simpa using e)
    exact ⟨d, by simpa using h1, h2⟩
theorem DVs.take {H : Hp} : ∀ {vs : List V} {ds : List PyData} (n : Nat), DVs K H vs ds → DVs K H (vs.take n) (ds.take n)
  | _, _, 0, _ => .nil
  | _, _, _ + 1, .nil => .nil
  | _, _, n + 1, .cons h1 h2 => .cons h1 (DVs.take n h2)
theorem DVs.drop {H : Hp} : ∀ {vs : List V} {ds : List PyData} (n : Nat), DVs K H vs ds → DVs K H (vs.drop n) (ds.drop n)
  | _, _, 0, h => h
  | _, _, _ + 1, .nil => .nil
  | _, _, n + 1, .cons h1 h2 => DVs.drop n h2
theorem DVs.rev {H : Hp} : ∀ {vs : List V} {ds : List PyData}, DVs K H vs ds → DVs K H vs.reverse ds.reverse
  | _, _, .nil => .nil
  | _, _, .cons h1 h2 => by rw [List.reverse_cons, List.reverse_cons]; exact DVs.append (DVs.rev h2) (.cons h1 .nil)
theorem DVs.set {H : Hp} {v : V} {d : PyData} (h : DV K H v d) : ∀ {vs : List V} {ds : List PyData} (i : Nat), DVs K H vs ds → DVs K H (vs.set i v) (ds.set i d)
  | _, _, _, .nil => .nil
  | _, _, 0, .cons _ h2 => .cons h h2
  | _, _, i + 1, .cons h1 h2 => .cons h1 (DVs.set h i h2)
theorem DVs.erase {H : Hp} : ∀ {vs : List V} {ds : List PyData} (i : Nat), DVs K H vs ds → DVs K H (vs.eraseIdx i) (ds.eraseIdx i)
  | _, _, _, .nil => .nil
  | _, _, 0, .cons _ h2 => h2
  | _, _, i + 1, .cons h1 h2 => .cons h1 (DVs.erase i h2)
/-- a dict's entries -/
inductive KD (K : PySem.W.Frag) (H : Hp) : List (Key × V) → List (Key × PyData) → Prop
  | nil : KD K H [] []
  | cons {k : Key} {v : V} {d : PyData} {es : List (Key × V)} {kvs : List (Key × PyData)} : DV K H v d → KD K H es kvs → KD K H ((k, v) :: es) ((k, d) :: kvs)
theorem KD.mono {H H' : Hp} (e : Same H H') : ∀ {es : List (Key × V)} {kvs : List (Key × PyData)}, KD K H es kvs → KD K H' es kvs
  | _, _, .nil => .nil
  | _, _, .cons h1 h2 => .cons (DV.mono e h1) (KD.mono e h2)
/-- what the value of a slot is, F: what never changes any more -/
def OR (K : PySem.W.Frag) (F H : Hp) (v : V) : OD → Prop
  | .sh d => DV K F v d
  | .ol xs => ∃ a vs, v = .ref a ∧ F a = none ∧ H a = some (.lst vs) ∧ DVs K F vs xs
  | .od kvs => ∃ a es, v = .ref a ∧ F a = none ∧ H a = some (.dK es) ∧ KD K F es kvs
  | .sc ns => ∃ a, v = .ref a ∧ SqL K F a (ns.map V.int)
def own (σ : St) (ρ : Rho) (b : Addr) : Prop := ∃ (i : Nat) (o : OD), ρ[i]? = some (some o) ∧ o.isO = true ∧ σ[i]? = some (some (V.ref b))
structure SR (K : PySem.W.Frag) (F H : Hp) (σ : St) (ρ : Rho) : Prop where
  sub : Same F H
  len : ρ.length = σ.length
  sl : ∀ (i : Nat) (o : OD), ρ[i]? = some (some o) → ∃ v, σ[i]? = some (some v) ∧ OR K F H v o
  sep : ∀ (i j : Nat) (o o' : OD) (a : Addr), i ≠ j → ρ[i]? = some (some o) → o.isO = true → ρ[j]? = some (some o') → o'.isO = true → σ[i]? = some (some (V.ref a)) → σ[j]? ≠ some (some (V.ref a))
structure Grow (ow ow' : Addr → Prop) (F H F' H' : Hp) : Prop where
  ext : Same F F'
  keep : ∀ b o, H b = some o → ¬ ow b → H' b = some o
  new : ∀ b, F' b ≠ none → F b ≠ none ∨ H b = none ∨ ow b
  ows : ∀ b, ow' b → ow b ∨ H b = none
section
variable {ow ow1 ow2 : Addr → Prop} {F H F1 H1 F2 H2 : Hp}
theorem Grow.refl : Grow ow ow F H F H := ⟨Same.refl _, fun _ _ h _ => h, fun _ h => .inl h, fun _ h => .inl h⟩
theorem Grow.back (g : Grow ow ow1 F H F1 H1) {b : Addr} (h : H1 b = none) : H b = none ∨ ow b := by
  by_cases hb : ow b
  · exact .inr hb
  · cases e : H b with
    | none => exact .inl rfl
    | some o => rw [g.keep b o e hb] at h; cases h
theorem Grow.trans (g : Grow ow ow1 F H F1 H1) (g' : Grow ow1 ow2 F1 H1 F2 H2) : Grow ow ow2 F H F2 H2 := by
  have key : ∀ b o, H b = some o → ¬ ow b → ¬ ow1 b := fun b o h n h1 => by
    rcases g.ows b h1 with z | z
    · exact n z
    · rw [h] at z; cases z
  refine ⟨g.ext.trans g'.ext, fun b o h n => g'.keep b o (g.keep b o h n) (key b o h n), fun b h => ?_, fun b h => ?_⟩
  · rcases g'.new b h with z | z | z
    · exact g.new b z
    · exact .inr (g.back z)
    · rcases g.ows b z with y | y
      · exact .inr (.inr y)
      · exact .inr (.inl y)
  · rcases g'.ows b h with z | z
    · exact g.ows b z
    · rcases g.back z with y | y
      · exact .inr y
      · exact .inl y
theorem Grow.less (g : Grow ow ow1 F H F1 H1) (h : ∀ b, ow2 b → ow1 b) : Grow ow ow2 F H F1 H1 := ⟨g.ext, g.keep, g.new, fun b z => g.ows b (h b z)⟩
/-- something new that never changes -/
theorem Grow.laid {p : Addr} {o : HO} (hp : H p = none) (fp : F p = none) : Grow ow ow F H (upd F p o) (upd H p o) := by
  refine ⟨fun b u h => ?_, fun b u h _ => ?_, fun b h => ?_, fun b h => .inl h⟩
  · rw [upd_ne (ne_of_none h fp)]; exact h
  · rw [upd_ne (ne_of_none h hp)]; exact h
  · by_cases e : b = p
    · subst e; exact .inr (.inl hp)
    · rw [upd_ne e] at h; exact .inl h
/-- something new that may change -/
theorem Grow.fresh {p : Addr} {o : HO} (hp : H p = none) : Grow ow ow F H F (upd H p o) :=
  ⟨Same.refl _, fun b u h _ => by rw [upd_ne (ne_of_none h hp)]; exact h, fun b h => .inl h, fun b h => .inl h⟩
/-- what was new is fixed -/
theorem Grow.fix {p : Addr} {o : HO} (fp : F1 p = none) (g : Grow ow ow1 F H F1 H1) (hp : H p = none ∨ ow p) : Grow ow ow1 F H (upd F1 p o) H1 := by
  refine ⟨fun b u h => ?_, g.keep, fun b h => ?_, g.ows⟩
  · have := g.ext b u h
    rw [upd_ne (ne_of_none this fp)]; exact this
  · by_cases e : b = p
    · subst e; exact .inr hp
    · rw [upd_ne e] at h; exact g.new b h
/-- an owned one is written -/
theorem Grow.wr {p : Addr} {o : HO} (h : ow p) : Grow ow ow F H F (upd H p o) :=
  ⟨Same.refl _, fun b u e n => by rw [upd_ne (fun z => n (by rw [z]; exact h))]; exact e, fun b h => .inl h, fun b h => .inl h⟩
end
section
variable {F H F' H' : Hp} {σ : St} {ρ : Rho} {p : Addr} {o : HO} {v : V} {r : OD}
theorem OR.keep (h : OR K F H v r) (e : Same F F') (hk : ∀ a, v = .ref a → r.isO = true → F' a = none ∧ ∀ u, H a = some u → H' a = some u) : OR K F' H' v r := by
  cases r with
  | sh d => exact DV.mono e h
  | sc ns =>
    obtain ⟨a, rfl, h⟩ := h
    exact ⟨a, rfl, e.seq h⟩
  | ol xs =>
    obtain ⟨a, vs, rfl, h1, h2, h3⟩ := h
    obtain ⟨k1, k2⟩ := hk a rfl rfl
    exact ⟨a, vs, rfl, k1, k2 _ h2, DVs.mono e h3⟩
  | od kvs =>
    obtain ⟨a, vs, rfl, h1, h2, h3⟩ := h
    obtain ⟨k1, k2⟩ := hk a rfl rfl
    exact ⟨a, vs, rfl, k1, k2 _ h2, KD.mono e h3⟩
theorem OR.refs (h : OR K F H v r) (i : r.isO = true) : ∃ a u, v = .ref a ∧ F a = none ∧ H a = some u := by
  cases r with
  | sh d => cases i
  | sc ns => cases i
  | ol xs => obtain ⟨a, vs, rfl, h1, h2, h3⟩ := h; exact ⟨a, _, rfl, h1, h2⟩
  | od kvs => obtain ⟨a, vs, rfl, h1, h2, h3⟩ := h; exact ⟨a, _, rfl, h1, h2⟩
theorem own.at (s : SR K F H σ ρ) (h : own σ ρ p) : F p = none ∧ ∃ u, H p = some u := by
  obtain ⟨i, o, e1, e2, e3⟩ := h
  obtain ⟨v, e4, e5⟩ := s.sl i o e1
  rw [e3] at e4; cases e4
  obtain ⟨a, u, z, h1, h2⟩ := e5.refs e2
  cases z
  exact ⟨h1, u, h2⟩
/-- the state goes on: all owned ones are as they were -/
theorem SR.on (s : SR K F H σ ρ) (e : Same F F') (sub : Same F' H') (hk : ∀ a, own σ ρ a → F' a = none ∧ ∀ u, H a = some u → H' a = some u) : SR K F' H' σ ρ := by
  refine ⟨sub, s.len, fun i o h => ?_, s.sep⟩
  obtain ⟨v, e1, e2⟩ := s.sl i o h
  exact ⟨v, e1, e2.keep e fun a ha io => hk a ⟨i, o, h, io, by rw [e1, ha]⟩⟩
theorem SR.laid (s : SR K F H σ ρ) (hp : H p = none) : SR K (upd F p o) (upd H p o) σ ρ := by
  have fp : F p = none := s.sub.free hp
  refine s.on (fun b u h => by rw [upd_ne (ne_of_none h fp)]; exact h) (fun b u h => ?_) fun a ha => ?_
  · by_cases e : b = p
    · subst e; rw [upd_same] at h ⊢; exact h
    · rw [upd_ne e] at h ⊢; exact s.sub b u h
  · obtain ⟨h1, u, h2⟩ := own.at s ha
    have ne : a ≠ p := ne_of_none h2 hp
    exact ⟨by rw [upd_ne ne]; exact h1, fun u h => by rw [upd_ne ne]; exact h⟩
theorem SR.fresh (s : SR K F H σ ρ) (hp : H p = none) : SR K F (upd H p o) σ ρ := by
  refine s.on (Same.refl _) (fun b u h => ?_) fun a ha => ?_
  · have := s.sub b u h
    rw [upd_ne (ne_of_none this hp)]; exact this
  · obtain ⟨h1, u, h2⟩ := own.at s ha
    exact ⟨h1, fun u h => by rw [upd_ne (ne_of_none h2 hp)]; exact h⟩
theorem SR.fix (s : SR K F H σ ρ) (no : ¬ own σ ρ p) (h : H p = some o) (fp : F p = none) : SR K (upd F p o) H σ ρ := by
  refine s.on (fun b u h => by rw [upd_ne (ne_of_none h fp)]; exact h) (fun b u q => ?_) fun a ha => ?_
  · by_cases e : b = p
    · subst e; rw [upd_same] at q; rw [← q]; exact h
    · rw [upd_ne e] at q; exact s.sub b u q
  · obtain ⟨h1, u, h2⟩ := own.at s ha
    exact ⟨by rw [upd_ne (fun z => no (by rw [← z]; exact ha))]; exact h1, fun u h => h⟩
end
/-! ### what is wanted behind -/
structure Ct where
  K : PySem.W.Frag
  W : WX
  XR : Hp → Hp → Value → Option Addr → Xc → Prop
abbrev RRel (α : Type) := Hp → Hp → St → Rho → Rho → Hp → V → α → Prop
def PostE {α β : Type} (C : Ct) (RR : Hp → Hp → St → Rho → Rho → Hp → β → α → Prop) (σ : St) (ρ : Rho) (F H : Hp) (Q : β → Hp → Prop) : Res α → Prop
  | .ok r ρ' => ∀ F' H' v, Grow (own σ ρ) (own σ ρ') F H F' H' → SR C.K F' H' σ ρ' → RR F' H' σ ρ' ρ H v r → Q v H'
  | .ex x ρ' => ∀ F' H' cls d, Grow (own σ ρ) (own σ ρ') F H F' H' → SR C.K F' H' σ ρ' → C.XR F' H' cls d x → C.W cls d σ H'
  | .bad => False
def rD (K : PySem.W.Frag) : RRel PyData := fun F' _ _ _ _ _ v d => DV K F' v d
def rO (K : PySem.W.Frag) : RRel OD := fun F' H' σ ρ' ρ H v r => OR K F' H' v r ∧ (r.isO = true → ∀ a, v = .ref a → ¬ own σ ρ' a ∧ (H a = none ∨ own σ ρ a))
/-- as it stands now: a look at a slot -/
def rP (K : PySem.W.Frag) : RRel PyData := fun _ H' _ _ _ _ v d => DV K H' v d
def tD (C : Ct) (m : M PyData) : TE := fun σ H Q => ∃ F ρ, SR C.K F H σ ρ ∧ PostE C (rD C.K) σ ρ F H Q (m ρ)
def tO (C : Ct) (m : M OD) : TE := fun σ H Q => ∃ F ρ, SR C.K F H σ ρ ∧ PostE C (rO C.K) σ ρ F H Q (m ρ)
def tP (C : Ct) (m : M PyData) : TE := fun σ H Q => ∃ F ρ, SR C.K F H σ ρ ∧ PostE C (rP C.K) σ ρ F H Q (m ρ)
def tT (C : Ct) (m : M Bool) : TT := fun σ H Q => ∃ F ρ, SR C.K F H σ ρ ∧ PostE (β := Bool) C (fun _ _ _ _ _ _ v d => v = d) σ ρ F H Q (m ρ)
section
variable {α β γ : Type} {C : Ct} {σ : St} {ρ ρ1 : Rho} {F H F1 H1 : Hp}
/-- on from a later state -/
theorem PostE.step {RR RR' : Hp → Hp → St → Rho → Rho → Hp → β → α → Prop} {Q : β → Hp → Prop} {x : Res α} (g : Grow (own σ ρ) (own σ ρ1) F H F1 H1)
    (h : PostE C RR σ ρ F H Q x) (hr : ∀ F' H' ρ' v r, Grow (own σ ρ1) (own σ ρ') F1 H1 F' H' → RR' F' H' σ ρ' ρ1 H1 v r → RR F' H' σ ρ' ρ H v r) : PostE C RR' σ ρ1 F1 H1 Q x := by
  cases x with
  | ok r ρ' => exact fun F' H' v g' s r' => h F' H' v (g.trans g') s (hr _ _ _ _ _ g' r')
  | ex x ρ' => exact fun F' H' cls d g' s r' => h F' H' cls d (g.trans g') s r'
  | bad => exact h
theorem PostE.stepD {Q : VK} {x : Res PyData} (g : Grow (own σ ρ) (own σ ρ1) F H F1 H1) (h : PostE C (rD C.K) σ ρ F H Q x) : PostE C (rD C.K) σ ρ1 F1 H1 Q x := h.step g fun _ _ _ _ _ _ r => r
theorem PostE.stepO {Q : VK} {x : Res OD} (g : Grow (own σ ρ) (own σ ρ1) F H F1 H1) (h : PostE C (rO C.K) σ ρ F H Q x) : PostE C (rO C.K) σ ρ1 F1 H1 Q x := h.step g fun F' H' ρ' v r g' q => by
  refine ⟨q.1, fun io a e => ⟨(q.2 io a e).1, ?_⟩⟩
  rcases (q.2 io a e).2 with z | z
  · exact g.back z
  · rcases g.ows a z with y | y
    · exact .inr y
    · exact .inl y
/-- a part of an expression: what it asks, and what is asked behind it -/
theorem PostE.part {δ : Type} {RA : Hp → Hp → St → Rho → Rho → Hp → β → α → Prop} {RR : Hp → Hp → St → Rho → Rho → Hp → δ → γ → Prop} {Q : δ → Hp → Prop} {R : β → Hp → Prop} {ma : M α} {f : α → M γ}
    (h : PostE C RR σ ρ F H Q (ma.bind f ρ))
    (k : ∀ a ρ' F' H' v, ma ρ = .ok a ρ' → PostE C RR σ ρ F H Q (f a ρ') → Grow (own σ ρ) (own σ ρ') F H F' H' → SR C.K F' H' σ ρ' → RA F' H' σ ρ' ρ H v a → R v H') : PostE C RA σ ρ F H R (ma ρ) := by
  unfold M.bind at h
  cases e : ma ρ with
  | ok a ρ' => rw [e] at h; exact fun F' H' v g s r => k a ρ' F' H' v e h g s r
  | ex x ρ' => rw [e] at h; exact h
  | bad => rw [e] at h; exact h
end
/-! ### shared and owned results -/
def fz (o : OD) : M PyData := match o with
  | .sh d => M.ret d
  | .ol xs => M.ret (.list xs)
  | _ => M.bad
section
variable {X : Cx} {e : Expr} {C : Ct}
/-- a shared result -/
theorem o_of_d {m : M PyData} (h : PE X e (tD C m)) : PE X e (tO C (m.bind fun d => M.ret (.sh d))) := by
  refine ⟨fun pins s σ H Q I q => h.run pins s σ H Q I ?_⟩
  obtain ⟨F, ρ, sr, p⟩ := q
  exact ⟨F, ρ, sr, p.part fun a ρ' F' H' v _ q g s r => q F' H' v g s ⟨r, fun z => by cases z⟩⟩
/-- a new list that nobody changes any more -/
theorem d_of_o {m : M OD} (h : PE X e (tO C m)) : PE X e (tD C (m.bind fz)) := by
  refine ⟨fun pins s σ H Q I q => h.run pins s σ H Q I ?_⟩
  obtain ⟨F, ρ, sr, p⟩ := q
  refine ⟨F, ρ, sr, p.part fun a ρ' F' H' v _ q g s r => ?_⟩
  cases a with
  | sh d => exact q F' H' v g s r.1
  | od kvs => exact q.elim
  | sc kvs => exact q.elim
  | ol xs =>
    obtain ⟨⟨a, vs, rfl, h1, h2, h3⟩, h4⟩ := r
    obtain ⟨n1, n2⟩ := h4 rfl a rfl
    refine q (upd F' a (.lst vs)) H' (.ref a) (g.fix h1 n2) (s.fix n1 h2 h1) ?_
    exact .lst upd_same (DVs.mono (fun b u h => by rw [upd_ne (ne_of_none h h1)]; exact h) h3)
theorem p_of_d {m : M PyData} (h : PE X e (tD C m)) : PE X e (tP C m) := by
  refine ⟨fun pins s σ H Q I q => h.run pins s σ H Q I ?_⟩
  obtain ⟨F, ρ, sr, p⟩ := q
  refine ⟨F, ρ, sr, ?_⟩
  cases e : m ρ with
  | ok r ρ' => rw [e] at p; exact fun F' H' v g s q => p F' H' v g s (DV.mono s.sub q)
  | ex x ρ' => rw [e] at p; exact p
  | bad => rw [e] at p; exact p
end
end
end Eg
namespace Eg
open PySem L2 PySem.W PySem.SeqAt
/-! ## expressions -/
section
variable {X : Cx} {C : Ct} {e a b : Expr} {pos : Pos}
theorem _root_.L2.PE.imp {t t' : TE} (h : PE X e t) (i : ∀ σ H Q, t' σ H Q → t σ H Q) : PE X e t' := ⟨fun pins s σ H Q I q => h.run pins s σ H Q I (i _ _ _ q)⟩
/-- atoms -/
def atom : PyData → Option V
  | .none => some .non
  | .bool b => some (.bl b)
  | .int i => some (.int i)
  | .str x => some (.str x)
  | _ => none
theorem atom_dv {K : PySem.W.Frag} {H : Hp} {d : PyData} {v : V} (h : atom d = some v) : DV K H v d := by
  cases d <;> simp [atom] at h <;> subst h <;> constructor
theorem dv_atom {K : PySem.W.Frag} {H : Hp} {d : PyData} {v w : V} (h : atom d = some v) (r : DV K H w d) : w = v := by
  cases d <;> simp [atom] at h <;> subst h <;> cases r <;> rfl
/-- a constant -/
theorem d_c {t : TE} {v : V} {d : PyData} (h : PE X e (tC v)) (hd : atom d = some v) : PE X e (tD C (M.ret d)) :=
  h.imp fun σ H Q ⟨F, ρ, sr, p⟩ => p F H v Grow.refl sr (atom_dv hd)
theorem d_int {i : Int} {j} : PE X (.Constant (.int i) j pos) (tD C (M.ret (.int i))) := d_c (t := tC (.int i)) pe_int rfl
theorem d_str {i : Str} {j} : PE X (.Constant (.str i) j pos) (tD C (M.ret (.str i))) := d_c (t := tC (.str i)) pe_str rfl
theorem d_bool {i : Bool} {j} : PE X (.Constant (.bool i) j pos) (tD C (M.ret (.bool i))) := d_c (t := tC (.bl i)) pe_bl rfl
theorem d_none {j} : PE X (.Constant .none j pos) (tD C (M.ret .none)) := d_c (t := tC .non) pe_non rfl
/-! ### names -/
theorem SR.wipe {K : PySem.W.Frag} {F H : Hp} {σ : St} {ρ : Rho} (i : Nat) (s : SR K F H σ ρ) : SR K F H σ (ρ.set i none) := by
  refine ⟨s.sub, by rw [List.length_set]; exact s.len, fun j o h => ?_, fun j k o o' a ne h1 i1 h2 i2 => ?_⟩
  · by_cases e : i = j
    · subst e
      by_cases hl : i < ρ.length
      · rw [List.getElem?_set_self hl] at h; cases h
      · rw [List.getElem?_eq_none (by rw [List.length_set]; omega)] at h; cases h
    · rw [List.getElem?_set_ne e] at h; exact s.sl j o h
  · have go : ∀ {j : Nat} {o : OD}, (ρ.set i none)[j]? = some (some o) → ρ[j]? = some (some o) := fun {j o} h => by
      by_cases e : i = j
      · subst e
        by_cases hl : i < ρ.length
        · rw [List.getElem?_set_self hl] at h; cases h
        · rw [List.getElem?_eq_none (by rw [List.length_set]; omega)] at h; cases h
      · rw [List.getElem?_set_ne e] at h; exact h
    exact s.sep j k o o' a ne (go h1) i1 (go h2) i2
theorem own.wipe {σ : St} {ρ : Rho} {i : Nat} {b : Addr} (h : own σ (ρ.set i none) b) : own σ ρ b ∧ ∀ o a, ρ[i]? = some (some o) → σ[i]? = some (some (.ref a)) → True := by
  refine ⟨?_, fun _ _ _ _ => trivial⟩
  obtain ⟨j, o, e1, e2, e3⟩ := h
  by_cases e : i = j
  · subst e
    by_cases hl : i < ρ.length
    · rw [List.getElem?_set_self hl] at e1; cases e1
    · rw [List.getElem?_eq_none (by rw [List.length_set]; omega)] at e1; cases e1
  · rw [List.getElem?_set_ne e] at e1; exact ⟨j, o, e1, e2, e3⟩
theorem own.wipeNe {K : PySem.W.Frag} {F H : Hp} {σ : St} {ρ : Rho} {i : Nat} {o : OD} {a : Addr} (s : SR K F H σ ρ) (h : ρ[i]? = some (some o)) (io : o.isO = true) (ha : σ[i]? = some (some (.ref a))) : ¬ own σ (ρ.set i Option.none) a := by
  rintro ⟨j, o', e1, e2, e3⟩
  by_cases e : i = j
  · subst e
    have hl : i < ρ.length := (List.getElem?_eq_some_iff.mp h).1
    rw [List.getElem?_set_self hl] at e1; cases e1
  · rw [List.getElem?_set_ne e] at e1
    exact s.sep i j o o' a e h io e1 e2 ha e3
/-- a slot gets something shared -/
theorem SR.put {K : PySem.W.Frag} {F H : Hp} {σ : St} {ρ : Rho} {i : Nat} {v : V} {o : OD} (s : SR K F H σ ρ) (hv : σ[i]? = some (some v)) (h : OR K F H v o) (no : o.isO = true → ∀ a, v = .ref a → ¬ own σ (ρ.set i none) a) : SR K F H σ (ρ.set i (some o)) := by
  have n := s.wipe i
  have hl : i < ρ.length := by rw [s.len]; exact (List.getElem?_eq_some_iff.mp hv).1
  have same : ∀ {j : Nat}, i ≠ j → (ρ.set i (some o))[j]? = (ρ.set i none)[j]? := fun {j} e => by rw [List.getElem?_set_ne e, List.getElem?_set_ne e]
  refine ⟨s.sub, by rw [List.length_set]; exact s.len, fun j u hj => ?_, fun j k u u' a ne h1 i1 h2 i2 h3 h4 => ?_⟩
  · by_cases e : i = j
    · subst e
      rw [List.getElem?_set_self hl] at hj
      cases hj
      exact ⟨v, hv, h⟩
    · rw [same e] at hj; exact n.sl j u hj
  · by_cases ej : i = j
    · subst ej
      rw [List.getElem?_set_self hl] at h1
      cases h1
      rw [same ne] at h2
      rw [hv] at h3
      exact no i1 a (Option.some.inj (Option.some.inj h3)) ⟨k, u', h2, i2, h4⟩
    · rw [same ej] at h1
      by_cases ek : i = k
      · subst ek
        rw [List.getElem?_set_self hl] at h2
        cases h2
        rw [hv] at h4
        exact no i2 a (Option.some.inj (Option.some.inj h4)) ⟨j, u, h1, i1, h3⟩
      · rw [same ek] at h2
        exact n.sep j k u u' a ne h1 i1 h2 i2 h3 h4
theorem own.put {σ : St} {ρ : Rho} {i : Nat} {o : OD} {b : Addr} (h : own σ (ρ.set i (some o)) b) : own σ (ρ.set i none) b ∨ (o.isO = true ∧ σ[i]? = some (some (.ref b))) := by
  obtain ⟨j, o', e1, e2, e3⟩ := h
  by_cases e : i = j
  · subst e
    by_cases hl : i < ρ.length
    · rw [List.getElem?_set_self hl] at e1; cases e1; exact .inr ⟨e2, e3⟩
    · rw [List.getElem?_eq_none (by rw [List.length_set]; omega)] at e1; cases e1
  · rw [List.getElem?_set_ne e] at e1
    exact .inl ⟨j, o', by rw [List.getElem?_set_ne e]; exact e1, e2, e3⟩
/-- the name's thing is fixed from now on -/
def mName (i : Nat) : M PyData := fun ρ => match ρ[i]? with
  | some (some (.sh d)) => .ok d ρ
  | some (some (.ol xs)) => .ok (.list xs) (ρ.set i (some (.sh (.list xs))))
  | _ => .bad
/-- a look at it -/
def mPeek (i : Nat) : M PyData := fun ρ => match ρ[i]? with
  | some (some (.sh d)) => .ok d ρ
  | some (some (.ol xs)) => .ok (.list xs) ρ
  | _ => .bad
/-- it is handed on, the slot has nothing then -/
def mTake (i : Nat) : M OD := fun ρ => match ρ[i]? with
  | some (some (.sc _)) => .bad
  | some (some o) => .ok o (ρ.set i none)
  | _ => .bad
theorem d_name {i : Nat} (h : PE X e (tVar i)) : PE X e (tD C (mName i)) := by
  refine PE.imp h fun σ H Q ⟨F, ρ, sr, p⟩ => ?_
  unfold mName at p
  cases q : ρ[i]? with
  | none => rw [q] at p; exact p.elim
  | some o =>
    rw [q] at p
    cases o with
    | none => exact p.elim
    | some o =>
      obtain ⟨v, hv, r⟩ := sr.sl i o q
      cases o with
      | sh d => exact ⟨v, hv, p F H v Grow.refl sr r⟩
      | od kvs => exact p.elim
      | sc ns => exact p.elim
      | ol xs =>
        obtain ⟨a, vs, rfl, h1, h2, h3⟩ := r
        refine ⟨_, hv, p (upd F a (.lst vs)) H (.ref a) ?_ ?_ (.lst upd_same (DVs.mono (fun b u h => by rw [upd_ne (ne_of_none h h1)]; exact h) h3))⟩
        · refine Grow.less (Grow.fix h1 Grow.refl (.inr ⟨i, _, q, rfl, hv⟩)) fun b hb => ?_
          rcases hb.put with z | ⟨z, _⟩
          · exact (own.wipe z).1
          · cases z
        · have n := SR.fix (sr.wipe i) (own.wipeNe sr q rfl hv) h2 h1
          have n2 := SR.put (i := i) (o := .sh (.list xs)) n hv (.lst upd_same (DVs.mono (fun b u h => by rw [upd_ne (ne_of_none h h1)]; exact h) h3)) (fun z => by cases z)
          rw [List.set_set] at n2
          exact n2
theorem p_name {i : Nat} (h : PE X e (tVar i)) : PE X e (tP C (mPeek i)) := by
  refine PE.imp h fun σ H Q ⟨F, ρ, sr, p⟩ => ?_
  unfold mPeek at p
  cases q : ρ[i]? with
  | none => rw [q] at p; exact p.elim
  | some o =>
    rw [q] at p
    cases o with
    | none => exact p.elim
    | some o =>
      obtain ⟨v, hv, r⟩ := sr.sl i o q
      cases o with
      | sh d => exact ⟨v, hv, p F H v Grow.refl sr (DV.mono sr.sub r)⟩
      | od kvs => exact p.elim
      | sc ns => exact p.elim
      | ol xs =>
        obtain ⟨a, vs, rfl, h1, h2, h3⟩ := r
        exact ⟨_, hv, p F H (.ref a) Grow.refl sr (.lst h2 (DVs.mono sr.sub h3))⟩
theorem o_take {i : Nat} (h : PE X e (tVar i)) : PE X e (tO C (mTake i)) := by
  refine PE.imp h fun σ H Q ⟨F, ρ, sr, p⟩ => ?_
  unfold mTake at p
  cases q : ρ[i]? with
  | none => rw [q] at p; exact p.elim
  | some o =>
    rw [q] at p
    cases o with
    | none => exact p.elim
    | some o =>
      obtain ⟨v, hv, r⟩ := sr.sl i o q
      have fin : PostE C (rO C.K) σ ρ F H Q (.ok o (ρ.set i none)) → ∃ v, σ[i]? = some (some v) ∧ Q v H := fun p =>
        ⟨v, hv, p F H v (Grow.less Grow.refl fun b hb => (own.wipe hb).1) (sr.wipe i) ⟨r, fun io a ha => by
          subst ha
          exact ⟨own.wipeNe sr q io hv, .inr ⟨i, o, q, io, hv⟩⟩⟩⟩
      cases o with
      | sh d => exact fin p
      | od kvs => exact fin p
      | sc ns => exact p.elim
      | ol xs => exact fin p
/-! ### two parts, their data fixed -/
/-- the wish goes back to an earlier state -/
def Stb {β α : Type} (RR : Hp → Hp → St → Rho → Rho → Hp → β → α → Prop) : Prop := ∀ σ ρ ρ1 F H F1 H1 ρ' F' H' v r, Grow (own σ ρ) (own σ ρ1) F H F1 H1 → RR F' H' σ ρ' ρ1 H1 v r → RR F' H' σ ρ' ρ H v r
theorem stb_D {K : PySem.W.Frag} : Stb (rD K) := fun _ _ _ _ _ _ _ _ _ _ _ _ _ r => r
theorem stb_P {K : PySem.W.Frag} : Stb (rP K) := fun _ _ _ _ _ _ _ _ _ _ _ _ _ r => r
theorem stb_O {K : PySem.W.Frag} : Stb (rO K) := fun _ _ _ _ _ _ _ _ _ _ v r g q => by
  refine ⟨q.1, fun io a e => ⟨(q.2 io a e).1, ?_⟩⟩
  rcases (q.2 io a e).2 with z | z
  · exact g.back z
  · rcases g.ows a z with y | y
    · exact .inr y
    · exact .inl y
theorem PostE.on {β γ : Type} {RR : Hp → Hp → St → Rho → Rho → Hp → β → γ → Prop} {σ : St} {ρ ρ1 : Rho} {F H F1 H1 : Hp} {Q : β → Hp → Prop} {x : Res γ} (h : PostE C RR σ ρ F H Q x) (st : Stb RR) (g : Grow (own σ ρ) (own σ ρ1) F H F1 H1) :
    PostE C RR σ ρ1 F1 H1 Q x := h.step g fun F' H' ρ' v r _ z => st _ _ _ _ _ _ _ _ _ _ _ _ g z
/-! ### arguments: a thing that is fixed, or a slot that is looked at -/
inductive Arg where
  | dat (d : PyData)
  | slot (i : Nat)
def res1 (ρ : Rho) : Arg → Option PyData
  | .dat d => some d
  | .slot i => match ρ[i]? with
    | some (some (.sh d)) => some d
    | some (some (.ol xs)) => some (.list xs)
    | _ => none
def rA (K : PySem.W.Frag) : Hp → Hp → St → Rho → Rho → Hp → V → Arg → Prop := fun F' _ σ _ _ _ v a => match a with
  | .dat d => DV K F' v d
  | .slot i => σ[i]? = some (some v)
def tA (C : Ct) (m : M Arg) : TE := fun σ H Q => ∃ F ρ, SR C.K F H σ ρ ∧ PostE C (rA C.K) σ ρ F H Q (m ρ)
theorem stb_A {K : PySem.W.Frag} : Stb (rA K) := fun _ _ _ _ _ _ _ _ _ _ _ _ _ r => r
/-- a view: a list as it stands now, anything else for good -/
def Vw (K : PySem.W.Frag) (F H : Hp) (v : V) (d : PyData) : Prop := match d with
  | .list ds => ∃ a vs, v = .ref a ∧ H a = some (.lst vs) ∧ DVs K F vs ds
  | d => DV K F v d
theorem Vw.of {K : PySem.W.Frag} {F H : Hp} {v : V} {d : PyData} (h : DV K F v d) (s : Same F H) : Vw K F H v d := by
  cases h with
  | lst h1 h2 => exact ⟨_, _, rfl, s _ _ h1, h2⟩
  | non => exact .non
  | bl b => exact .bl b
  | int b => exact .int b
  | str b => exact .str b
  | tup h1 h2 => exact .tup h1 h2
theorem Vw.dv {K : PySem.W.Frag} {F H : Hp} {v : V} {d : PyData} (h : Vw K F H v d) (s : Same F H) : DV K H v d := by
  cases d with
  | list ds =>
    obtain ⟨a, vs, rfl, h1, h2⟩ := h
    exact .lst h1 (DVs.mono s h2)
  | _ => exact DV.mono s h
theorem rA.view {K : PySem.W.Frag} {F H : Hp} {σ : St} {ρ ρ0 : Rho} {H0 : Hp} {v : V} {a : Arg} {d : PyData} (s : SR K F H σ ρ) (h : rA K F H σ ρ ρ0 H0 v a) (r : res1 ρ a = some d) : Vw K F H v d := by
  cases a with
  | dat e => cases r; exact Vw.of h s.sub
  | slot i =>
    have h : σ[i]? = some (some v) := h
    simp only [res1] at r
    cases q : ρ[i]? with
    | none => rw [q] at r; cases r
    | some o =>
      rw [q] at r
      cases o with
      | none => cases r
      | some o =>
        obtain ⟨v', hv, ro⟩ := s.sl i o q
        rw [h] at hv; cases hv
        cases o with
        | sh e => cases r; exact Vw.of ro s.sub
        | ol xs =>
          cases r
          obtain ⟨a, vs, e1, h1, h2, h3⟩ := ro
          exact ⟨a, vs, e1, h2, h3⟩
        | od _ => cases r
        | sc _ => cases r
theorem rA.mono {K : PySem.W.Frag} {F H F' H' : Hp} {σ : St} {ρ ρ0 ρ' ρ0' : Rho} {H0 H0' : Hp} {v : V} {a : Arg} (e : Same F F') (h : rA K F H σ ρ ρ0 H0 v a) : rA K F' H' σ ρ' ρ0' H0' v a := by
  cases a with
  | dat d => exact DV.mono e h
  | slot i => exact h
theorem a_of_d {m : M PyData} (h : PE X e (tD C m)) : PE X e (tA C (m.bind fun d => M.ret (.dat d))) :=
  h.imp fun σ H Q ⟨F, ρ, sr, p⟩ => ⟨F, ρ, sr, p.part fun d ρ1 F1 H1 x e1 q1 g1 s1 r1 => q1 F1 H1 x g1 s1 r1⟩
def mSlot (i : Nat) : M Arg := fun ρ => match ρ[i]? with
  | some (some _) => .ok (.slot i) ρ
  | _ => .bad
theorem a_name {i : Nat} (h : PE X e (tVar i)) : PE X e (tA C (mSlot i)) := by
  refine PE.imp h fun σ H Q ⟨F, ρ, sr, p⟩ => ?_
  unfold mSlot at p
  cases q : ρ[i]? with
  | none => rw [q] at p; exact p.elim
  | some o =>
    rw [q] at p
    cases o with
    | none => exact p.elim
    | some o =>
      obtain ⟨v, hv, r⟩ := sr.sl i o q
      exact ⟨v, hv, p F H v Grow.refl sr hv⟩
/-- one part; what is asked behind it -/
theorem one {δ γ : Type} {ma : M Arg} {g : Arg → M γ} {RR : Hp → Hp → St → Rho → Rho → Hp → δ → γ → Prop} {σ : St} {ρ : Rho} {F H : Hp} {Q : δ → Hp → Prop} {R : V → Hp → Prop}
    (sr : SR C.K F H σ ρ) (st : Stb RR) (p : PostE C RR σ ρ F H Q (ma.bind g ρ))
    (k : ∀ x a ρ1 F1 H1, SR C.K F1 H1 σ ρ1 → Grow (own σ ρ) (own σ ρ1) F H F1 H1 → rA C.K F1 H1 σ ρ1 ρ H x a → PostE C RR σ ρ1 F1 H1 Q (g a ρ1) → R x H1) : tA C ma σ H R :=
  ⟨F, ρ, sr, p.part fun d ρ1 F1 H1 x e1 q1 g1 s1 r1 => k x d ρ1 F1 H1 s1 g1 r1 (q1.on st g1)⟩
def M.get : M Rho := fun ρ => .ok ρ ρ
/-- an operation on what the two are then -/
def m2 {γ : Type} (g : PyData → PyData → Option γ) (ma mb : M Arg) : M γ := ma.bind fun a => mb.bind fun b => M.get.bind fun ρ => M.lift (do g (← res1 ρ a) (← res1 ρ b))
def m1 {γ : Type} (g : PyData → Option γ) (ma : M Arg) : M γ := ma.bind fun a => M.get.bind fun ρ => M.lift (do g (← res1 ρ a))
theorem lift_some {γ : Type} {RR : Hp → Hp → St → Rho → Rho → Hp → V → γ → Prop} {σ : St} {ρ ρ0 : Rho} {F H : Hp} {Q : VK} {x : Option γ} (p : PostE C RR σ ρ0 F H Q (M.lift x ρ)) : ∃ d, x = some d ∧ PostE C RR σ ρ0 F H Q (.ok d ρ) := by
  cases x with
  | none => exact p.elim
  | some d => exact ⟨d, rfl, p⟩
theorem two {γ : Type} {ma mb : M Arg} {g : PyData → PyData → Option γ} {RR : Hp → Hp → St → Rho → Rho → Hp → V → γ → Prop} {σ : St} {ρ : Rho} {F H : Hp} {Q : VK} {R : V → V → Hp → Prop}
    (sr : SR C.K F H σ ρ) (st : Stb RR) (p : PostE C RR σ ρ F H Q (m2 g ma mb ρ))
    (k : ∀ x y dx dy d ρ2 F2 H2, SR C.K F2 H2 σ ρ2 → Vw C.K F2 H2 x dx → Vw C.K F2 H2 y dy → g dx dy = some d → PostE C RR σ ρ2 F2 H2 Q (.ok d ρ2) → R x y H2) :
    tA C ma σ H fun x H1 => tA C mb σ H1 fun y H2 => R x y H2 :=
  one sr st p fun x a ρ1 F1 H1 s1 g1 r1 q1 => one s1 st q1 fun y b ρ2 F2 H2 s2 g2 r2 q2 => by
    obtain ⟨d, e, q⟩ := lift_some q2
    cases e1 : res1 ρ2 a with
    | none => rw [e1] at e; cases e
    | some dx =>
      cases e2 : res1 ρ2 b with
      | none => rw [e1, e2] at e; cases e
      | some dy =>
        rw [e1, e2] at e
        exact k x y dx dy d ρ2 F2 H2 s2 (rA.view (ρ0 := ρ) (H0 := H) s2 (rA.mono g2.ext r1) e1) (r2.view s2 e2) e q
/-- what an operation by values does, told by data -/
def OpD (X : Cx) (f : Value → Value → Sem Value) (g : PyData → PyData → Option PyData) : Prop :=
  ∀ (pins : List (Addr × Obj)) (s : Shared) (σ : St) (H : Hp) (x y : V) (v u : Value) (dx dy d : PyData) (Q : VK), Inv X pins σ H s → RelV x v → RelV y u → DV X.K H x dx → DV X.K H y dy → g dx dy = some d →
    (∀ w, atom d = some w → Q w H) → wpAny (model X.prog X.w) X.A (f v u) (EP X pins σ Q) X.xe s
/-- something new: as it is, a tuple, a list -/
inductive Alloc (K : PySem.W.Frag) (F H : Hp) : Hp → Hp → V → OD → Prop
  | asis {v : V} {d : PyData} : DV K F v d → Alloc K F H F H v (.sh d)
  | tup {p : Addr} {vs : List V} {ds : List PyData} : H p = none → DVs K F vs ds → Alloc K F H (upd F p (.tup vs)) (upd H p (.tup vs)) (.ref p) (.sh (.tuple ds))
  | lst {p : Addr} {vs : List V} {ds : List PyData} : H p = none → DVs K F vs ds → Alloc K F H F (upd H p (.lst vs)) (.ref p) (.ol ds)
theorem DVs.upd {K : PySem.W.Frag} {F : Hp} {p : Addr} {o : HO} {vs : List V} {ds : List PyData} (fp : F p = none) (h : DVs K F vs ds) : DVs K (L2.upd F p o) vs ds := DVs.mono (fun b u h => by rw [upd_ne (ne_of_none h fp)]; exact h) h
theorem Alloc.post {F H F' H' : Hp} {σ : St} {ρ : Rho} {v : V} {o : OD} {Q : VK} (s : SR C.K F H σ ρ) (h : Alloc C.K F H F' H' v o) (q : PostE C (rO C.K) σ ρ F H Q (.ok o ρ)) : Q v H' := by
  cases h with
  | asis h => exact q F H v Grow.refl s ⟨h, fun z => by cases z⟩
  | tup hp h =>
    have fp := s.sub.free hp
    exact q _ _ _ (Grow.laid hp fp) (s.laid hp) ⟨.tup (.inl (.inl upd_same)) (h.upd fp), fun z => by cases z⟩
  | @lst p vs ds hp h =>
    have fp := s.sub.free hp
    refine q _ _ _ (Grow.fresh hp) (s.fresh hp) ⟨⟨p, vs, rfl, fp, upd_same, h⟩, fun _ a e => ⟨fun z => ?_, .inl ?_⟩⟩
    · cases e
      obtain ⟨_, u, e2⟩ := own.at s z
      rw [hp] at e2; cases e2
    · cases e; exact hp
def OpO (X : Cx) (f : Value → Value → Sem Value) (g : PyData → PyData → Option OD) : Prop :=
  ∀ (pins : List (Addr × Obj)) (s : Shared) (σ : St) (F H : Hp) (x y : V) (v u : Value) (dx dy : PyData) (o : OD) (Q : VK), Inv X pins σ H s → RelV x v → RelV y u → Same F H → Vw X.K F H x dx → Vw X.K F H y dy → g dx dy = some o →
    (∀ F' H' w, Alloc X.K F H F' H' w o → Q w H') → wpAny (model X.prog X.w) X.A (f v u) (EP X pins σ Q) X.xe s
theorem d_op {op : Operator} {g : PyData → PyData → Option PyData} {ma mb : M Arg} (ho : OpD X (binaryOp op) g) (ha : PE X a (tA C ma)) (hb : PE X b (tA C mb)) (hK : X.K = C.K := by rfl) : PE X (.BinOp a op b pos) (tD C (m2 g ma mb)) := by
  refine ⟨fun pins s σ H Q I ⟨F, ρ, sr, p⟩ => ?_⟩
  refine wpAny_BinOp (binT ha hb (R := fun x y H2 => ∃ dx dy d ρ2 F2, SR C.K F2 H2 σ ρ2 ∧ Vw C.K F2 H2 x dx ∧ Vw C.K F2 H2 y dy ∧ g dx dy = some d ∧ PostE C (rD C.K) σ ρ2 F2 H2 Q (.ok d ρ2)) I (two sr stb_D p fun x y dx dy d ρ2 F2 H2 s2 r1 r2 e q => ⟨dx, dy, d, ρ2, F2, s2, r1, r2, e, q⟩)
    fun v u s2 x y H2 I2 rx ry ⟨dx, dy, d, ρ2, F2, s2', r1, r2, hg, q⟩ => ?_)
  exact ho pins s2 σ H2 x y v u dx dy d Q I2 rx ry (hK ▸ r1.dv s2'.sub) (hK ▸ r2.dv s2'.sub) hg fun w hw => q F2 H2 w Grow.refl s2' (atom_dv hw)
theorem d_cmp {op : CmpOp} {g : PyData → PyData → Option PyData} {ma mb : M Arg} (ho : OpD X (compareOp op) g) (ha : PE X a (tA C ma)) (hb : PE X b (tA C mb)) (hK : X.K = C.K := by rfl)
    (h1 : behindInMarks op b = false := by first | exact nobehind _ (by decide) (by decide) | rfl) : PE X (.Compare a [op] [b] pos) (tD C (m2 g ma mb)) := by
  refine ⟨fun pins s σ H Q I ⟨F, ρ, sr, p⟩ => ?_⟩
  refine wpAny_Compare1 (binT ha hb (R := fun x y H2 => ∃ dx dy d ρ2 F2, SR C.K F2 H2 σ ρ2 ∧ Vw C.K F2 H2 x dx ∧ Vw C.K F2 H2 y dy ∧ g dx dy = some d ∧ PostE C (rD C.K) σ ρ2 F2 H2 Q (.ok d ρ2)) I (two sr stb_D p fun x y dx dy d ρ2 F2 H2 s2 r1 r2 e q => ⟨dx, dy, d, ρ2, F2, s2, r1, r2, e, q⟩)
    fun v u s2 x y H2 I2 rx ry ⟨dx, dy, d, ρ2, F2, s2', r1, r2, hg, q⟩ => ?_) h1
  exact ho pins s2 σ H2 x y v u dx dy d Q I2 rx ry (hK ▸ r1.dv s2'.sub) (hK ▸ r2.dv s2'.sub) hg fun w hw => q F2 H2 w Grow.refl s2' (atom_dv hw)
theorem o_op {op : Operator} {g : PyData → PyData → Option OD} {ma mb : M Arg} (ho : OpO X (binaryOp op) g) (ha : PE X a (tA C ma)) (hb : PE X b (tA C mb)) (hK : X.K = C.K := by rfl) : PE X (.BinOp a op b pos) (tO C (m2 g ma mb)) := by
  refine ⟨fun pins s σ H Q I ⟨F, ρ, sr, p⟩ => ?_⟩
  refine wpAny_BinOp (binT ha hb (R := fun x y H2 => ∃ dx dy d ρ2 F2, SR C.K F2 H2 σ ρ2 ∧ Vw C.K F2 H2 x dx ∧ Vw C.K F2 H2 y dy ∧ g dx dy = some d ∧ PostE C (rO C.K) σ ρ2 F2 H2 Q (.ok d ρ2)) I (two sr stb_O p fun x y dx dy d ρ2 F2 H2 s2 r1 r2 e q => ⟨dx, dy, d, ρ2, F2, s2, r1, r2, e, q⟩)
    fun v u s2 x y H2 I2 rx ry ⟨dx, dy, d, ρ2, F2, s2', r1, r2, hg, q⟩ => ?_)
  exact ho pins s2 σ F2 H2 x y v u dx dy d Q I2 rx ry s2'.sub (hK ▸ r1) (hK ▸ r2) hg fun F' H' w h => Alloc.post s2' (hK ▸ h) q
end
end Eg
namespace Eg
open PySem L2 PySem.W PySem.SeqAt
/-! ## operators on data -/
mutual
theorem DV.plain {K : PySem.W.Frag} {H : Hp} : ∀ {v : V} {d : PyData}, DV K H v d → d.plain = true
  | _, _, .non => rfl
  | _, _, .bl b => rfl
  | _, _, .int i => rfl
  | _, _, .str x => rfl
  | _, _, .lst h1 h2 => by simp only [PyData.plain]; exact DVs.plain h2
  | _, _, .tup h1 h2 => by simp only [PyData.plain]; exact DVs.plain h2
theorem DVs.plain {K : PySem.W.Frag} {H : Hp} : ∀ {vs : List V} {ds : List PyData}, DVs K H vs ds → PyData.plainAll ds = true
  | _, _, .nil => rfl
  | _, _, .cons h1 h2 => by simp only [PyData.plainAll, DV.plain h1, DVs.plain h2, Bool.and_self]
end
mutual
theorem DV.noDict {K : PySem.W.Frag} {H : Hp} : ∀ {v : V} {d : PyData}, DV K H v d → d.hasDict = false
  | _, _, .non => rfl
  | _, _, .bl b => rfl
  | _, _, .int i => rfl
  | _, _, .str x => rfl
  | _, _, .lst h1 h2 => by simp only [PyData.hasDict]; exact DVs.noDict h2
  | _, _, .tup h1 h2 => by simp only [PyData.hasDict]; exact DVs.noDict h2
theorem DVs.noDict {K : PySem.W.Frag} {H : Hp} : ∀ {vs : List V} {ds : List PyData}, DVs K H vs ds → PyData.hasDictAll ds = false
  | _, _, .nil => rfl
  | _, _, .cons h1 h2 => by simp only [PyData.hasDictAll, DV.noDict h1, DVs.noDict h2, Bool.or_self]
end
/-- not too deep for the stack -/
def small (d : PyData) : Bool := decide (d.depth ≤ 60)
def isNon : PyData → Bool
  | .none => true
  | _ => false
def gSub : PyData → PyData → Option PyData
  | .int i, .int j => some (.int (i - j))
  | _, _ => none
def gMul : PyData → PyData → Option PyData
  | .int i, .int j => if (-(2 ^ 64) < i ∧ i < 2 ^ 64) ∨ (-(2 ^ 64) < j ∧ j < 2 ^ 64) then some (.int (i * j)) else none
  | _, _ => none
def gMod : PyData → PyData → Option PyData
  | .int i, .int j => if 0 < j then some (.int (i % j)) else none
  | _, _ => none
def gFloor : PyData → PyData → Option PyData
  | .int i, .int j => if 0 < j ∧ j < 1073741824 then some (.int (i / j)) else none
  | _, _ => none
def gPow : PyData → PyData → Option PyData
  | .int i, .int j => if 0 ≤ j ∧ j ≤ 1000000 ∧ i.natAbs < 2 ^ 64 then some (.int (i ^ j.toNat)) else none
  | _, _ => none
def gEq (x y : PyData) : Option PyData := if small x = true then some (.bool (PyData.eqv x y)) else none
def gNe (x y : PyData) : Option PyData := if small x = true then some (.bool (!PyData.eqv x y)) else none
def cmpOk (x y : PyData) : Bool := alike x y && !isNon x && small x
def gLt (x y : PyData) : Option PyData := if cmpOk x y = true then some (.bool (dataLt x y)) else none
def gGt (x y : PyData) : Option PyData := if cmpOk x y = true then some (.bool (dataLt y x)) else none
def gLe (x y : PyData) : Option PyData := if cmpOk x y = true then some (.bool (!dataLt y x)) else none
def gGe (x y : PyData) : Option PyData := if cmpOk x y = true then some (.bool (!dataLt x y)) else none
def gIn : PyData → PyData → Option PyData
  | x, .list ys => if small x = true then some (.bool (ys.any fun y => PyData.eqv y x)) else none
  | x, .tuple ys => if small x = true then some (.bool (ys.any fun y => PyData.eqv y x)) else none
  | _, _ => none
def gNotIn : PyData → PyData → Option PyData
  | x, .list ys => if small x = true then some (.bool (!ys.any fun y => PyData.eqv y x)) else none
  | x, .tuple ys => if small x = true then some (.bool (!ys.any fun y => PyData.eqv y x)) else none
  | _, _ => none
section
variable {X : Cx}
theorem room_small {A : Around} {x y : PyData} (h : small x = true) (hu : A.units + 64 < cLine) : A.units + min x.depth y.depth < cLine := by
  have h1 : x.depth ≤ 60 := of_decide_eq_true h
  have := Nat.min_le_left x.depth y.depth
  omega
theorem room_smallR {A : Around} {x : PyData} {n : Nat} (h : small x = true) (hu : A.units + 64 < cLine) : A.units + 1 + min n x.depth < cLine := by
  have h1 : x.depth ≤ 60 := of_decide_eq_true h
  have := Nat.min_le_right n x.depth
  omega
/-- from a rule by values on ints -/
theorem opd_int {f : Value → Value → Sem Value} {G : Int → Int → Prop} {r : Int → Int → V} {g : PyData → PyData → Option PyData} (ho : OpR X f (rI G r))
    (hg : ∀ x y d, g x y = some d → ∃ i j, x = .int i ∧ y = .int j ∧ G i j ∧ atom d = some (r i j)) : OpD X f g := by
  intro pins s σ H x y v u dx dy d Q I rx ry h1 h2 e q
  obtain ⟨i, j, rfl, rfl, hG, hd⟩ := hg dx dy d e
  cases h1
  cases h2
  exact ho pins s σ H _ _ v u Q I rx ry ⟨i, j, rfl, rfl, hG, q _ hd⟩
theorem od_sub : OpD X (binaryOp .Sub) gSub := by
  intro pins s σ H x y v u dx dy d Q I rx ry h1 h2 e q
  cases dx <;> cases dy <;> simp [gSub] at e
  subst e
  cases h1; cases h2
  exact op_sub pins s σ H _ _ v u Q I rx ry ⟨_, _, rfl, rfl, q _ rfl⟩
theorem od_mul : OpD X (binaryOp .Mult) gMul := opd_int op_mul fun x y d e => by
  cases x <;> cases y <;> simp only [gMul] at e <;> first | cases e | skip
  split at e <;> cases e
  rename_i h
  exact ⟨_, _, rfl, rfl, h, rfl⟩
theorem od_mod : OpD X (binaryOp .Mod) gMod := opd_int op_mod fun x y d e => by
  cases x <;> cases y <;> simp only [gMod] at e <;> first | cases e | skip
  split at e <;> cases e
  rename_i h
  exact ⟨_, _, rfl, rfl, h, rfl⟩
theorem od_floor : OpD X (binaryOp .FloorDiv) gFloor := opd_int op_fdiv fun x y d e => by
  cases x <;> cases y <;> simp only [gFloor] at e <;> first | cases e | skip
  split at e <;> cases e
  rename_i h
  exact ⟨_, _, rfl, rfl, h, rfl⟩
theorem od_pow : OpD X (binaryOp .Pow) gPow := opd_int op_pow fun x y d e => by
  cases x <;> cases y <;> simp only [gPow] at e <;> first | cases e | skip
  split at e <;> cases e
  rename_i h
  exact ⟨_, _, rfl, rfl, h, rfl⟩
section
variable {pins : List (Addr × Obj)} {σ : St} {H : Hp} {s : Shared}
theorem DV.reads (I : Inv X pins σ H s) {d : PyData} {v : V} {u : Value} (h : DV X.K H v d) (r : RelV v u) : ∃ as, Reads s.heap u d as := L2.Dp.reads I d v u (DV.dp h) r
end
theorem od_eq (hu : X.A.units + 64 < cLine) : OpD X (compareOp .Eq) gEq := by
  intro pins s σ H x y v u dx dy d Q I rx ry h1 h2 e q
  unfold gEq at e
  split at e <;> cases e
  rename_i h
  obtain ⟨as, r1⟩ := h1.reads I rx
  obtain ⟨bs, r2⟩ := h2.reads I ry
  exact eq_plain r1 r2 h1.plain h2.plain (room_small h hu) ⟨.bl _, H, I, rfl, q _ rfl⟩
theorem od_ne (hu : X.A.units + 64 < cLine) : OpD X (compareOp .NotEq) gNe := by
  intro pins s σ H x y v u dx dy d Q I rx ry h1 h2 e q
  unfold gNe at e
  split at e <;> cases e
  rename_i h
  obtain ⟨as, r1⟩ := h1.reads I rx
  obtain ⟨bs, r2⟩ := h2.reads I ry
  exact ne_plain r1 r2 h1.plain h2.plain (room_small h hu) ⟨.bl _, H, I, rfl, q _ rfl⟩
theorem cmpOk_at {x y : PyData} (h : cmpOk x y = true) : alike x y = true ∧ x ≠ .none ∧ small x = true := by
  unfold cmpOk at h
  simp only [Bool.and_eq_true] at h
  refine ⟨h.1.1, fun z => ?_, h.2⟩
  subst z
  simp [isNon] at h
theorem od_lt (hu : X.A.units + 64 < cLine) : OpD X (compareOp .Lt) gLt := by
  intro pins s σ H x y v u dx dy d Q I rx ry h1 h2 e q
  unfold gLt at e
  split at e <;> cases e
  rename_i h
  obtain ⟨c1, c2, c3⟩ := cmpOk_at h
  obtain ⟨as, r1⟩ := h1.reads I rx
  obtain ⟨bs, r2⟩ := h2.reads I ry
  exact lt_data r1 r2 c1 c2 (room_small c3 hu) ⟨.bl _, H, I, rfl, q _ rfl⟩
theorem od_gt (hu : X.A.units + 64 < cLine) : OpD X (compareOp .Gt) gGt := by
  intro pins s σ H x y v u dx dy d Q I rx ry h1 h2 e q
  unfold gGt at e
  split at e <;> cases e
  rename_i h
  obtain ⟨c1, c2, c3⟩ := cmpOk_at h
  obtain ⟨as, r1⟩ := h1.reads I rx
  obtain ⟨bs, r2⟩ := h2.reads I ry
  exact gt_data r1 r2 c1 c2 (room_small c3 hu) ⟨.bl _, H, I, rfl, q _ rfl⟩
theorem od_le (hu : X.A.units + 64 < cLine) : OpD X (compareOp .LtE) gLe := by
  intro pins s σ H x y v u dx dy d Q I rx ry h1 h2 e q
  unfold gLe at e
  split at e <;> cases e
  rename_i h
  obtain ⟨c1, c2, c3⟩ := cmpOk_at h
  obtain ⟨as, r1⟩ := h1.reads I rx
  obtain ⟨bs, r2⟩ := h2.reads I ry
  exact le_data r1 r2 c1 c2 (room_small c3 hu) ⟨.bl _, H, I, rfl, q _ rfl⟩
theorem od_ge (hu : X.A.units + 64 < cLine) : OpD X (compareOp .GtE) gGe := by
  intro pins s σ H x y v u dx dy d Q I rx ry h1 h2 e q
  unfold gGe at e
  split at e <;> cases e
  rename_i h
  obtain ⟨c1, c2, c3⟩ := cmpOk_at h
  obtain ⟨as, r1⟩ := h1.reads I rx
  obtain ⟨bs, r2⟩ := h2.reads I ry
  exact ge_data r1 r2 c1 c2 (room_small c3 hu) ⟨.bl _, H, I, rfl, q _ rfl⟩
theorem od_in (hu : X.A.units + 64 < cLine) : OpD X (compareOp .In) gIn := by
  intro pins s σ H x y v u dx dy d Q I rx ry h1 h2 e q
  cases dy with
  | list ys =>
    simp only [gIn] at e
    split at e <;> cases e
    rename_i h
    obtain ⟨as, r1⟩ := h1.reads I rx
    obtain ⟨bs, r2⟩ := h2.reads I ry
    have pl := h2.plain
    simp only [PyData.plain] at pl
    exact in_list_data r2 r1 pl h1.plain (room_smallR h hu) ⟨.bl _, H, I, rfl, q _ rfl⟩
  | tuple ys =>
    simp only [gIn] at e
    split at e <;> cases e
    rename_i h
    obtain ⟨as, r1⟩ := h1.reads I rx
    obtain ⟨bs, r2⟩ := h2.reads I ry
    have pl := h2.plain
    simp only [PyData.plain] at pl
    exact in_tuple_data r2 r1 pl h1.plain (room_smallR h hu) ⟨.bl _, H, I, rfl, q _ rfl⟩
  | _ => cases e
theorem od_notIn (hu : X.A.units + 64 < cLine) : OpD X (compareOp .NotIn) gNotIn := by
  intro pins s σ H x y v u dx dy d Q I rx ry h1 h2 e q
  cases dy with
  | list ys =>
    simp only [gNotIn] at e
    split at e <;> cases e
    rename_i h
    obtain ⟨as, r1⟩ := h1.reads I rx
    obtain ⟨bs, r2⟩ := h2.reads I ry
    have pl := h2.plain
    simp only [PyData.plain] at pl
    exact notIn_list_data r2 r1 pl h1.plain (room_smallR h hu) ⟨.bl _, H, I, rfl, q _ rfl⟩
  | tuple ys =>
    simp only [gNotIn] at e
    split at e <;> cases e
    rename_i h
    obtain ⟨as, r1⟩ := h1.reads I rx
    obtain ⟨bs, r2⟩ := h2.reads I ry
    have pl := h2.plain
    simp only [PyData.plain] at pl
    exact notIn_tuple_data r2 r1 pl h1.plain (room_smallR h hu) ⟨.bl _, H, I, rfl, q _ rfl⟩
  | _ => cases e
end
end Eg
namespace Eg
open PySem L2 PySem.W PySem.SeqAt
section
variable {X : Cx} {C : Ct} {e a b : Expr} {es : List Expr} {pos : Pos}
/-! ## +, * -/
def aAdd : PyData → PyData → Option OD
  | .int i, .int j => some (.sh (.int (i + j)))
  | .str x, .str y => if x.length + y.length ≤ sizeLine then some (.sh (.str (x ++ y))) else none
  | .list xs, .list ys => if xs.length + ys.length ≤ sizeLine then some (.ol (xs ++ ys)) else none
  | .tuple xs, .tuple ys => if xs.length + ys.length ≤ sizeLine then some (.sh (.tuple (xs ++ ys))) else none
  | _, _ => none
theorem DVs.nil_iff {K : PySem.W.Frag} {H : Hp} {vs : List V} {ds : List PyData} (h : DVs K H vs ds) : vs = [] ↔ ds = [] := by
  cases h <;> simp
theorem ao_add : OpO X (binaryOp .Add) aAdd := by
  intro pins s σ F H x y v u dx dy o Q I rx ry sub h1 h2 e q
  cases dx with
  | int i =>
    cases dy <;> simp only [aAdd] at e <;> cases e
    cases h1; cases h2
    exact op_add pins s σ H _ _ v u Q I rx ry ⟨_, _, rfl, rfl, q _ _ _ (.asis (.int _))⟩
  | str i =>
    cases dy <;> simp only [aAdd] at e <;> first | cases e | skip
    split at e <;> cases e
    rename_i hz
    cases h1; cases h2
    exact op_add_str pins s σ H _ _ v u Q I rx ry ⟨_, _, rfl, rfl, hz, q _ _ _ (.asis (.str _))⟩
  | list xs =>
    cases dy <;> simp only [aAdd] at e <;> first | cases e | skip
    split at e <;> cases e
    rename_i hz
    obtain ⟨a1, vs, rfl, g1, k1⟩ := h1
    obtain ⟨a2, ws, rfl, g2, k2⟩ := h2
    exact op_cat pins s σ H _ _ v u Q I rx ry ⟨_, _, _, _, rfl, rfl, g1, g2, by rw [k1.len, k2.len]; exact hz, fun p hp => q _ _ _ (.lst hp (k1.append k2))⟩
  | tuple xs =>
    cases dy <;> simp only [aAdd] at e <;> first | cases e | skip
    split at e <;> cases e
    rename_i ys hz
    have h1' : DV X.K F x (.tuple xs) := h1
    have h2' : DV X.K F y (.tuple ys) := h2
    cases h1' with
    | tup g1 k1 =>
      cases h2' with
      | tup g2 k2 =>
        refine op_catA pins s σ H _ _ v u Q I rx ry ⟨_, _, _, _, rfl, rfl, sub.sqT g1, sub.sqT g2, by rw [k1.len, k2.len]; exact hz, fun z => ?_, fun z1 z2 => ?_, fun z1 z2 p hp => ?_⟩
        · have := k1.nil_iff.mp z
          subst this
          exact q _ _ _ (.asis (.tup g2 k2))
        · have := k2.nil_iff.mp z2
          subst this
          rw [List.append_nil] at q
          exact q _ _ _ (.asis (.tup g1 k1))
        · exact q _ _ _ (.tup hp (k1.append k2))
  | _ => cases dy <;> simp only [aAdd] at e <;> cases e
def aMul : PyData → PyData → Option OD
  | .int i, .int j => if (-(2 ^ 64) < i ∧ i < 2 ^ 64) ∨ (-(2 ^ 64) < j ∧ j < 2 ^ 64) then some (.sh (.int (i * j))) else none
  | .list xs, .int k => if -(2 ^ 63) ≤ k ∧ k < 2 ^ 63 ∧ xs.length * k.toNat ≤ sizeLine then some (.ol (List.replicate k.toNat xs).flatten) else none
  | _, _ => none
theorem DVs.rep {K : PySem.W.Frag} {H : Hp} {vs : List V} {ds : List PyData} (h : DVs K H vs ds) : ∀ n : Nat, DVs K H (List.replicate n vs).flatten (List.replicate n ds).flatten
  | 0 => .nil
  | n + 1 => by rw [List.replicate_succ, List.replicate_succ, List.flatten_cons, List.flatten_cons]; exact h.append (DVs.rep h n)
theorem ao_mul : OpO X (binaryOp .Mult) aMul := by
  intro pins s σ F H x y v u dx dy o Q I rx ry sub h1 h2 e q
  cases dx with
  | int i =>
    cases dy <;> simp only [aMul] at e <;> first | cases e | skip
    split at e <;> cases e
    rename_i hz
    cases h1; cases h2
    exact op_mul pins s σ H _ _ v u Q I rx ry ⟨_, _, rfl, rfl, hz, q _ _ _ (.asis (.int _))⟩
  | list xs =>
    cases dy <;> simp only [aMul] at e <;> first | cases e | skip
    split at e <;> cases e
    rename_i hz
    obtain ⟨a1, vs, rfl, g1, k1⟩ := h1
    cases h2
    exact op_rep pins s σ H _ _ v u Q I rx ry ⟨_, _, _, rfl, rfl, g1, hz.1, hz.2.1, by rw [k1.len]; exact hz.2.2, fun p hp => q _ _ _ (.lst hp (k1.rep _))⟩
  | _ => cases dy <;> simp only [aMul] at e <;> cases e
/-! ## argument lists -/
inductive rAs (K : PySem.W.Frag) (F : Hp) (σ : St) : List V → List Arg → Prop
  | nil : rAs K F σ [] []
  | dat {v : V} {d : PyData} {vs : List V} {as : List Arg} : DV K F v d → rAs K F σ vs as → rAs K F σ (v :: vs) (.dat d :: as)
  | slot {v : V} {i : Nat} {vs : List V} {as : List Arg} : σ[i]? = some (some v) → rAs K F σ vs as → rAs K F σ (v :: vs) (.slot i :: as)
theorem rAs.mono {K : PySem.W.Frag} {F F' : Hp} {σ : St} (e : Same F F') : ∀ {vs : List V} {as : List Arg}, rAs K F σ vs as → rAs K F' σ vs as
  | _, _, .nil => .nil
  | _, _, .dat h t => .dat (DV.mono e h) (rAs.mono e t)
  | _, _, .slot h t => .slot h (rAs.mono e t)
theorem rAs.len {K : PySem.W.Frag} {F : Hp} {σ : St} : ∀ {vs : List V} {as : List Arg}, rAs K F σ vs as → vs.length = as.length
  | _, _, .nil => rfl
  | _, _, .dat h t => by rw [List.length_cons, List.length_cons, rAs.len t]
  | _, _, .slot h t => by rw [List.length_cons, List.length_cons, rAs.len t]
def rL (K : PySem.W.Frag) : Hp → Hp → St → Rho → Rho → Hp → List V → List Arg → Prop := fun F' _ σ _ _ _ vs as => rAs K F' σ vs as
def tL (C : Ct) (m : M (List Arg)) : TA := fun σ H Q => ∃ F ρ, SR C.K F H σ ρ ∧ PostE C (rL C.K) σ ρ F H Q (m ρ)
theorem stb_L {K : PySem.W.Frag} : Stb (rL K) := fun _ _ _ _ _ _ _ _ _ _ _ _ _ r => r
def mNil : M (List Arg) := M.ret []
def mCons (ma : M Arg) (ms : M (List Arg)) : M (List Arg) := ma.bind fun a => ms.bind fun as => M.ret (a :: as)
theorem l_nil : PA X [] (tL C mNil) := ⟨fun pos pins s σ H Q I ⟨F, ρ, sr, p⟩ => pa_nil.run pos pins s σ H Q I (p F H [] Grow.refl sr .nil)⟩
theorem l_cons {ma : M Arg} {ms : M (List Arg)} (ha : PE X e (tA C ma)) (hr : PA X es (tL C ms)) (hs : starEach (e :: es) X.env = (false, eval e X.env) :: starEach es X.env := by rfl) : PA X (e :: es) (tL C (mCons ma ms)) := by
  refine ⟨fun pos pins s σ H Q I ⟨F, ρ, sr, p⟩ => (pa_cons ha hr hs).run pos pins s σ H Q I ?_⟩
  refine one sr stb_L p fun x a ρ1 F1 H1 s1 g1 r1 q1 => ?_
  refine ⟨F1, ρ1, s1, q1.part fun as ρ2 F2 H2 xs e2 q2 g2 s2 r2 => ?_⟩
  refine q2 F2 H2 (x :: xs) g2 s2 ?_
  cases a with
  | dat d => exact .dat (DV.mono g2.ext r1) r2
  | slot i => exact .slot r1 r2
def resL (ρ : Rho) : List Arg → Option (List PyData)
  | [] => some []
  | a :: as => do (← res1 ρ a) :: (← resL ρ as)
inductive Vws (K : PySem.W.Frag) (F H : Hp) : List V → List PyData → Prop
  | nil : Vws K F H [] []
  | cons {v : V} {d : PyData} {vs : List V} {ds : List PyData} : Vw K F H v d → Vws K F H vs ds → Vws K F H (v :: vs) (d :: ds)
theorem rAs.views {K : PySem.W.Frag} {F H : Hp} {σ : St} {ρ : Rho} (s : SR K F H σ ρ) : ∀ {vs : List V} {as : List Arg} {ds : List PyData}, rAs K F σ vs as → resL ρ as = some ds → Vws K F H vs ds
  | _, [], _, .nil, r => by cases r; exact .nil
  | _, _ :: as, _, .dat h t, r => by
    simp only [resL, res1] at r
    cases e : resL ρ as with
    | none => rw [e] at r; cases r
    | some ds =>
      rw [e] at r; cases r
      exact .cons (Vw.of h s.sub) (rAs.views s t e)
  | _, .slot i :: as, _, .slot h t, r => by
    simp only [resL] at r
    cases e0 : res1 ρ (.slot i) with
    | none => rw [e0] at r; cases r
    | some d =>
      cases e : resL ρ as with
      | none => rw [e0, e] at r; cases r
      | some ds =>
        rw [e0, e] at r; cases r
        exact .cons (rA.view (ρ0 := ρ) (H0 := H) s (a := .slot i) h e0) (rAs.views s t e)
def mL {γ : Type} (g : List PyData → Option γ) (ms : M (List Arg)) : M γ := ms.bind fun as => M.get.bind fun ρ => M.lift (do g (← resL ρ as))
theorem many {γ : Type} {ms : M (List Arg)} {g : List PyData → Option γ} {RR : Hp → Hp → St → Rho → Rho → Hp → V → γ → Prop} {σ : St} {ρ : Rho} {F H : Hp} {Q : VK} {R : List V → Hp → Prop}
    (sr : SR C.K F H σ ρ) (st : Stb RR) (p : PostE C RR σ ρ F H Q (mL g ms ρ))
    (k : ∀ xs ds d ρ2 F2 H2, SR C.K F2 H2 σ ρ2 → Vws C.K F2 H2 xs ds → g ds = some d → PostE C RR σ ρ2 F2 H2 Q (.ok d ρ2) → R xs H2) : tL C ms σ H R :=
  ⟨F, ρ, sr, p.part fun as ρ1 F1 H1 xs e1 q1 g1 s1 r1 => by
    have q1 := q1.on st g1
    obtain ⟨d, e, q⟩ := lift_some q1
    cases e2 : resL ρ1 as with
    | none => rw [e2] at e; cases e
    | some ds =>
      rw [e2] at e
      exact k xs ds d ρ1 F1 H1 s1 (rAs.views s1 r1 e2) e q⟩
/-- a call of a builtin by values, told by data -/
def CallO (X : Cx) (f : Value) (g : List PyData → Option OD) : Prop :=
  ∀ (pins : List (Addr × Obj)) (s : Shared) (σ : St) (F H : Hp) (xs : List V) (us : List Value) (ds : List PyData) (o : OD) (Q : VK), Inv X pins σ H s → Vals xs us → Same F H → Vws X.K F H xs ds → g ds = some o →
    (∀ F' H' w, Alloc X.K F H F' H' w o → Q w H') → wpAny (model X.prog X.w) X.A (call f us) (EP X pins σ Q) X.xe s
/-- from a rule by values -/
theorem callO_of {f : Value} {r : List V → Hp → VK → Prop} {g : List PyData → Option OD} (hc : CallR X f r)
    (h : ∀ F H xs ds o Q, Same F H → Vws X.K F H xs ds → g ds = some o → (∀ F' H' w, Alloc X.K F H F' H' w o → Q w H') → r xs H Q) : CallO X f g :=
  fun pins s σ F H xs us ds o Q I r sub vw e q => hc pins s σ H xs us Q I r (h F H xs ds o Q sub vw e q)
theorem o_call {id : String} {x : Str} {p : Pos} {g : List PyData → Option OD} {ms : M (List Arg)} (hc : CallO X (.builtin id) g) (hg : Gl X x) (hm : X.mg x = none) (hv : bootBuiltins x = some (.builtin id)) (ha : PA X (e :: es) (tL C ms)) (hn : x ≠ "__name__" := by decide) (hdb : (x == ("__debug__" : Str)) = false := by decide)
    (he : starEach (e :: es) X.env = (false, eval e X.env) :: starEach es X.env := by rfl) (hpl : (backTo pos (starEach es X.env)).any (·.1) = false := by rfl) (hK : X.K = C.K := by rfl) : PE X (.Call (.Name x p) (e :: es) [] pos) (tO C (mL g ms)) := by
  refine ⟨fun pins s σ H Q I ⟨F, ρ, sr, pp⟩ => ?_⟩
  refine wpAny_Call_Name_kw (ld_blt I hg hm hv ?_ hn hdb)
  refine PyProof.Rows.callWith_builtin1 (thn (ha.run pos pins s σ H (fun xs H2 => ∃ ds d ρ2 F2, SR C.K F2 H2 σ ρ2 ∧ Vws C.K F2 H2 xs ds ∧ g ds = some d ∧ PostE C (rO C.K) σ ρ2 F2 H2 Q (.ok d ρ2)) I (many sr stb_O pp fun xs ds d ρ2 F2 H2 s2 vw e q => ⟨ds, d, ρ2, F2, s2, vw, e, q⟩))
    fun us s1 ⟨vs, H1, I1, r1, ds, d, ρ2, F2, s2, vw, e, q⟩ => ?_) he hpl
  exact hc pins s1 σ F2 H1 vs us ds d Q I1 r1 s2.sub (hK ▸ vw) e fun F' H' w h => Alloc.post s2 (hK ▸ h) q
theorem o_callTy {T : String} {x : Str} {p : Pos} {g : List PyData → Option OD} {ms : M (List Arg)} (hc : CallO X (.type T) g) (hg : Gl X x) (hm : X.mg x = none) (hv : bootBuiltins x = some (.type T)) (ha : PA X (e :: es) (tL C ms)) (hn : x ≠ "__name__" := by decide) (hdb : (x == ("__debug__" : Str)) = false := by decide)
    (he : starEach (e :: es) X.env = (false, eval e X.env) :: starEach es X.env := by rfl) (hpl : (backTo pos (starEach es X.env)).any (·.1) = false := by rfl) (hK : X.K = C.K := by rfl) : PE X (.Call (.Name x p) (e :: es) [] pos) (tO C (mL g ms)) := by
  refine ⟨fun pins s σ H Q I ⟨F, ρ, sr, pp⟩ => ?_⟩
  refine wpAny_Call_Name_kw (ld_blt I hg hm hv ?_ hn hdb)
  refine PyProof.Rows.callWith_type1 (thn (ha.run pos pins s σ H (fun xs H2 => ∃ ds d ρ2 F2, SR C.K F2 H2 σ ρ2 ∧ Vws C.K F2 H2 xs ds ∧ g ds = some d ∧ PostE C (rO C.K) σ ρ2 F2 H2 Q (.ok d ρ2)) I (many sr stb_O pp fun xs ds d ρ2 F2 H2 s2 vw e q => ⟨ds, d, ρ2, F2, s2, vw, e, q⟩))
    fun us s1 ⟨vs, H1, I1, r1, ds, d, ρ2, F2, s2, vw, e, q⟩ => ?_) he hpl
  exact hc pins s1 σ F2 H1 vs us ds d Q I1 r1 s2.sub (hK ▸ vw) e fun F' H' w h => Alloc.post s2 (hK ▸ h) q
/-! ## displays -/
/-- arguments that are kept: all of them fixed -/
def fixL : List Arg → Option (List PyData)
  | [] => some []
  | .dat d :: as => (fixL as).map (d :: ·)
  | .slot _ :: _ => none
theorem rAs.fixed {K : PySem.W.Frag} {F : Hp} {σ : St} : ∀ {vs : List V} {as : List Arg} {ds : List PyData}, rAs K F σ vs as → fixL as = some ds → DVs K F vs ds
  | _, [], _, .nil, r => by cases r; exact .nil
  | _, _ :: as, _, .dat h t, r => by
    simp only [fixL] at r
    cases e : fixL as with
    | none => rw [e] at r; cases r
    | some ds => rw [e] at r; cases r; exact .cons h (rAs.fixed t e)
  | _, _, _, .slot _ _, r => by cases r
def mFix {γ : Type} (g : List PyData → Option γ) (ms : M (List Arg)) : M γ := ms.bind fun as => M.lift (do g (← fixL as))
def tupG (ds : List PyData) : Option PyData := if ds.length ≤ sizeLine then some (.tuple ds) else none
def lstG (ds : List PyData) : Option OD := if ds.length ≤ sizeLine then some (.ol ds) else none
theorem d_tup {x1} {ms : M (List Arg)} (h : PA X es (tL C ms)) : PE X (.Tuple es x1 pos) (tD C (mFix tupG ms)) := by
  refine (pe_tup h).imp fun σ H Q ⟨F, ρ, sr, p⟩ => ?_
  refine ⟨F, ρ, sr, p.part fun as ρ1 F1 H1 xs e1 q1 g1 s1 r1 => ?_⟩
  obtain ⟨d, e, q⟩ := lift_some q1
  cases e2 : fixL as with
  | none => rw [e2] at e; cases e
  | some ds =>
    rw [e2] at e
    have r2 := r1.fixed e2
    simp only [tupG, Option.bind_eq_bind, Option.bind_some] at e
    split at e <;> cases e
    rename_i hz
    refine ⟨by rw [r2.len]; exact hz, fun p hp => ?_⟩
    have fp := s1.sub.free hp
    exact q _ _ _ (g1.trans (Grow.laid hp fp)) (s1.laid hp) (.tup (.inl (.inl upd_same)) (r2.upd fp))
theorem o_lst {ms : M (List Arg)} (h : PA X es (tL C ms)) : PE X (.List es pos) (tO C (mFix lstG ms)) := by
  refine (pe_lst h).imp fun σ H Q ⟨F, ρ, sr, p⟩ => ?_
  refine ⟨F, ρ, sr, p.part fun as ρ1 F1 H1 xs e1 q1 g1 s1 r1 => ?_⟩
  have q1 := q1.on stb_O g1
  obtain ⟨d, e, q⟩ := lift_some q1
  cases e2 : fixL as with
  | none => rw [e2] at e; cases e
  | some ds =>
    rw [e2] at e
    have r2 := r1.fixed e2
    simp only [lstG, Option.bind_eq_bind, Option.bind_some] at e
    split at e <;> cases e
    rename_i hz
    exact ⟨by rw [r2.len]; exact hz, fun p hp => Alloc.post s1 (.lst hp r2) q⟩
/-! ## subscripts -/
def gIx : PyData → PyData → Option PyData
  | .list ds, .int i => atI ds i
  | .tuple ds, .int i => atI ds i
  | .str z, .int i => if z.length ≤ sizeLine then (atI z.cps.toList i).map fun c => .str ⟨#[c]⟩ else none
  | _, _ => none
theorem DVs.atI {K : PySem.W.Frag} {H : Hp} {vs : List V} {ds : List PyData} {i : Int} {d : PyData} (h : DVs K H vs ds) (e : L2.atI ds i = some d) : ∃ v, L2.atI vs i = some v ∧ DV K H v d := by
  unfold L2.atI at e ⊢
  rw [h.len]
  cases q : ixN ds.length i with
  | none => rw [q] at e; cases e
  | some j => rw [q] at e; exact h.get e
theorem d_ix {ma mb : M Arg} (ha : PE X a (tA C ma)) (hb : PE X b (tA C mb)) (hs : PlainIx b) (hK : X.K = C.K := by rfl) : PE X (.Subscript a b pos) (tD C (m2 gIx ma mb)) := by
  refine (pe_ix ix_seq ha hb hs).imp fun σ H Q ⟨F, ρ, sr, p⟩ => ?_
  refine two sr stb_D p fun x y dx dy d ρ2 F2 H2 s2 r1 r2 e q => ?_
  rw [hK]
  cases dx with
  | list ds =>
    cases dy <;> simp only [gIx] at e <;> first | cases e | skip
    obtain ⟨p, vs, rfl, h1, h2⟩ := r1
    cases r2
    obtain ⟨w, e1, h3⟩ := h2.atI e
    exact .inl ⟨_, _, _, w, rfl, rfl, SqL.of h1, e1, q F2 H2 w Grow.refl s2 h3⟩
  | tuple ds =>
    cases dy <;> simp only [gIx] at e <;> first | cases e | skip
    have r1' : DV C.K F2 x (.tuple ds) := r1
    cases r1' with
    | tup h1 h2 =>
      cases r2
      obtain ⟨w, e1, h3⟩ := h2.atI e
      exact .inr (.inl ⟨_, _, _, w, rfl, rfl, s2.sub.sqT h1, e1, q F2 H2 w Grow.refl s2 h3⟩)
  | str z =>
    cases dy <;> simp only [gIx] at e <;> first | cases e | skip
    split at e <;> try cases e
    rename_i i hz
    cases r1; cases r2
    cases e2 : L2.atI z.cps.toList i with
    | none => rw [e2] at e; cases e
    | some c =>
      rw [e2] at e; cases e
      exact .inr (.inr ⟨_, _, c, rfl, rfl, hz, e2, q F2 H2 _ Grow.refl s2 (.str _)⟩)
  | _ => cases dy <;> simp only [gIx] at e <;> cases e
end
end Eg
namespace Eg
open PySem L2 PySem.W PySem.SeqAt
section
variable {X : Cx} {C : Ct} {e a b : Expr} {es : List Expr} {pos p2 : Pos}
/-! ## slices -/
def tPt (C : Ct) (m : M (Option Int)) : TO := fun σ H Q => ∃ F ρ, SR C.K F H σ ρ ∧ PostE (β := Option Int) C (fun _ _ _ _ _ _ v d => v = d) σ ρ F H Q (m ρ)
theorem stb_T {β : Type} : Stb (fun (_ _ : Hp) (_ : St) (_ _ : Rho) (_ : Hp) (v d : β) => v = d) := fun _ _ _ _ _ _ _ _ _ _ _ _ _ r => r
def asInt : PyData → M Int
  | .int i => M.ret i
  | _ => M.bad
theorem pt_none : PO X none (tPt C (M.ret none)) := ⟨fun pins s σ H Q I ⟨F, ρ, sr, p⟩ => po_none.run pins s σ H Q I (p F H none Grow.refl sr rfl)⟩
theorem pt_some {m : M PyData} (h : PE X e (tD C m)) : PO X (some e) (tPt C (m.bind fun d => (asInt d).bind fun i => M.ret (some i))) :=
  ⟨fun pins s σ H Q I ⟨F, ρ, sr, p⟩ => (po_some h).run pins s σ H Q I ⟨F, ρ, sr, p.part fun d ρ1 F1 H1 x e1 q1 g1 s1 r1 => by
    have q1 := q1.on stb_T g1
    cases d with
    | int i => cases r1; exact ⟨i, rfl, q1 F1 H1 _ Grow.refl s1 rfl⟩
    | _ => exact q1.elim⟩⟩
def cutD (xs : List PyData) (lo hi : Option Int) : List PyData := (xs.drop (HT.sIx xs.length 0 lo)).take (HT.sIx xs.length xs.length hi - HT.sIx xs.length 0 lo)
theorem DVs.cut {K : PySem.W.Frag} {H : Hp} {vs : List V} {ds : List PyData} (h : DVs K H vs ds) (lo hi : Option Int) : DVs K H (cutV vs lo hi) (cutD ds lo hi) := by
  unfold cutV cutD
  rw [h.len]
  exact (h.drop _).take _
def gSl (d : PyData) (lo hi : Option Int) : Option OD := match d with
  | .list ds => some (.ol (cutD ds lo hi))
  | .tuple ds => some (.sh (.tuple (cutD ds lo hi)))
  | .str z => if z.length ≤ sizeLine then some (.sh (.str (cutS z lo hi))) else none
  | _ => none
def mSl (ma : M Arg) (ml mh : M (Option Int)) : M OD := ma.bind fun a => ml.bind fun l => mh.bind fun h => M.get.bind fun ρ => M.lift (do gSl (← res1 ρ a) l h)
theorem cutD_whole {ds : List PyData} {lo hi : Option Int} (h : HT.sIx ds.length 0 lo = 0 ∧ HT.sIx ds.length ds.length hi = ds.length) : cutD ds lo hi = ds := by
  unfold cutD
  rw [h.1, h.2, List.drop_zero, Nat.sub_zero, List.take_length]
theorem o_sl {lo hi : Option Expr} {ma : M Arg} {ml mh : M (Option Int)} (ha : PE X a (tA C ma)) (hl : PO X lo (tPt C ml)) (hh : PO X hi (tPt C mh)) (hK : X.K = C.K := by rfl) :
    PE X (.Subscript a (.Slice lo hi none p2) pos) (tO C (mSl ma ml mh)) := by
  refine (pe_slice (sl_list.or (sl_tupA.or sl_str)) ha hl hh).imp fun σ H Q ⟨F, ρ, sr, p⟩ => ?_
  refine one sr stb_O p fun x a ρ1 F1 H1 s1 g1 r1 q1 => ?_
  refine ⟨F1, ρ1, s1, q1.part fun l ρ2 F2 H2 _ e2 q2 g2 s2 r2 => ?_⟩
  subst r2
  have q2 := q2.on stb_O g2
  refine ⟨F2, ρ2, s2, q2.part fun h ρ3 F3 H3 _ e3 q3 g3 s3 r3 => ?_⟩
  subst r3
  have q3 := q3.on stb_O g3
  obtain ⟨o, eo, q⟩ := lift_some q3
  cases ea : res1 ρ3 a with
  | none => rw [ea] at eo; cases eo
  | some d =>
    rw [ea] at eo
    have vw := rA.view (ρ0 := ρ) (H0 := H) s3 (rA.mono (ρ' := ρ3) (ρ0' := ρ) (H0' := H) (g2.trans g3).ext r1) ea
    rw [hK]
    cases d with
    | list ds =>
      cases eo
      obtain ⟨p, vs, rfl, h1, h2⟩ := vw
      exact .inl ⟨p, vs, rfl, SqL.of h1, fun p hp => Alloc.post s3 (.lst hp (h2.cut _ _)) q⟩
    | tuple ds =>
      cases eo
      have vw' : DV C.K F3 x (.tuple ds) := vw
      cases vw' with
      | tup h1 h2 =>
        refine .inr (.inl ⟨_, _, rfl, s3.sub.sqT h1, fun z => ?_, fun _ p hp => Alloc.post s3 (.tup hp (h2.cut _ _)) q⟩)
        rw [h2.len] at z
        rw [cutD_whole z] at q
        exact Alloc.post s3 (.asis (.tup h1 h2)) q
    | str z =>
      simp only [gSl, Option.bind_eq_bind, Option.bind_some] at eo
      split at eo <;> cases eo
      rename_i hz
      cases vw
      exact .inr (.inr ⟨z, rfl, hz, Alloc.post s3 (.asis (.str _)) q⟩)
    | _ => cases eo
/-- xs[::-1] of a list -/
def gRev : PyData → Option OD
  | .list ds => some (.ol ds.reverse)
  | _ => none
theorem o_rev {k : Nat} {p1 p3 : Pos} {ma : M Arg} (ha : PE X a (tA C ma)) (hK : X.K = C.K := by rfl) : PE X (.Subscript a (.Slice none none (some (.UnaryOp .USub (.Constant (.int 1) k p1) p2)) p3) pos) (tO C (m1 gRev ma)) := by
  refine (pe_revL ha).imp fun σ H Q ⟨F, ρ, sr, p⟩ => ?_
  refine one sr stb_O p fun x a ρ1 F1 H1 s1 g1 r1 q1 => ?_
  obtain ⟨o, eo, q⟩ := lift_some q1
  cases ea : res1 ρ1 a with
  | none => rw [ea] at eo; cases eo
  | some d =>
    rw [ea] at eo
    have vw := rA.view (ρ0 := ρ) (H0 := H) s1 r1 ea
    cases d with
    | list ds =>
      cases eo
      obtain ⟨p, vs, rfl, h1, h2⟩ := vw
      exact ⟨p, vs, rfl, SqL.of h1, fun p hp => Alloc.post s1 (.lst hp h2.rev) q⟩
    | _ => cases eo
/-- a slice of the script -/
def mScr (i : Nat) (ml mh : M (Option Int)) : M OD := fun ρ => match ρ[i]? with
  | some (some (.sc ns)) => (ml.bind fun l => mh.bind fun h => M.ret (.ol (cutD (ns.map .int) l h))) ρ
  | _ => .bad
theorem dvs_ints {K : PySem.W.Frag} {H : Hp} : ∀ ns : List Int, DVs K H (ns.map V.int) (ns.map .int)
  | [] => .nil
  | n :: ns => .cons (.int n) (dvs_ints ns)
theorem o_scr {i : Nat} {lo hi : Option Expr} {ml mh : M (Option Int)} (ha : PE X a (tVar i)) (hl : PO X lo (tPt C ml)) (hh : PO X hi (tPt C mh)) (hK : X.K = C.K := by rfl) :
    PE X (.Subscript a (.Slice lo hi none p2) pos) (tO C (mScr i ml mh)) := by
  refine (pe_slice sl_list ha hl hh).imp fun σ H Q ⟨F, ρ, sr, p⟩ => ?_
  unfold mScr at p
  cases q : ρ[i]? with
  | none => rw [q] at p; exact p.elim
  | some o =>
    rw [q] at p
    cases o with
    | none => exact p.elim
    | some o =>
      cases o with
      | sc ns =>
        obtain ⟨v, hv, a, rfl, hs⟩ := sr.sl i _ q
        refine ⟨_, hv, F, ρ, sr, p.part fun l ρ1 F1 H1 _ e1 q1 g1 s1 r1 => ?_⟩
        subst r1
        have q1 := q1.on stb_O g1
        refine ⟨F1, ρ1, s1, q1.part fun h ρ2 F2 H2 _ e2 q2 g2 s2 r2 => ?_⟩
        subst r2
        have q2 := q2.on stb_O g2
        rw [hK]
        exact ⟨a, _, rfl, s2.sub.seq ((g1.trans g2).ext.seq hs), fun p hp => Alloc.post s2 (.lst hp ((dvs_ints (K := C.K) (H := F2) ns).cut _ _)) q2⟩
      | _ => exact p.elim
/-! ## builtins -/
def gLen : List PyData → Option OD
  | [.list ds] => some (.sh (.int ds.length))
  | [.tuple ds] => some (.sh (.int ds.length))
  | [.str z] => if z.length ≤ sizeLine then some (.sh (.int z.length)) else none
  | _ => none
theorem co_len : CallO X (.builtin "len") gLen := callO_of call_len fun F H xs ds o Q sub vw e q => by
  cases vw with
  | nil => cases e
  | cons h t =>
    cases t with
    | cons _ _ => rename_i d _ _ _ _ _ _; cases d <;> cases e
    | nil =>
      rename_i x d
      cases d with
      | list ds =>
        cases e
        obtain ⟨p, vs, rfl, h1, h2⟩ := h
        exact ⟨_, _, rfl, .inl ⟨vs, SqL.of h1, rfl⟩, by rw [h2.len]; exact q _ _ _ (.asis (.int _))⟩
      | tuple ds =>
        cases e
        have h' : DV X.K F x (.tuple ds) := h
        cases h' with
        | tup h1 h2 => exact ⟨_, _, rfl, .inr ⟨_, sub.sqT h1, rfl⟩, by rw [h2.len]; exact q _ _ _ (.asis (.int _))⟩
      | str z =>
        simp only [gLen] at e
        split at e <;> cases e
        rename_i hz
        cases h
        exact ⟨_, _, rfl, ⟨hz, rfl⟩, q _ _ _ (.asis (.int _))⟩
      | _ => cases e
def gList : List PyData → Option OD
  | [.list ds] => some (.ol ds)
  | [.tuple ds] => some (.ol ds)
  | _ => none
theorem co_list : CallO X (.type "list") gList := callO_of call_list_of fun F H xs ds o Q sub vw e q => by
  cases vw with
  | nil => cases e
  | cons h t =>
    cases t with
    | cons _ _ => rename_i d _ _ _ _ _ _; cases d <;> cases e
    | nil =>
      rename_i x d
      cases d with
      | list ds =>
        cases e
        obtain ⟨p, vs, rfl, h1, h2⟩ := h
        exact ⟨_, _, rfl, .inl (SqL.of h1), fun p hp => q _ _ _ (.lst hp h2)⟩
      | tuple ds =>
        cases e
        have h' : DV X.K F x (.tuple ds) := h
        cases h' with
        | tup h1 h2 => exact ⟨_, _, rfl, .inr (sub.sqT h1), fun p hp => q _ _ _ (.lst hp h2)⟩
      | _ => cases e
def gTuple : List PyData → Option OD
  | [.list ds] => some (.sh (.tuple ds))
  | [.tuple ds] => some (.sh (.tuple ds))
  | _ => none
theorem co_tuple : CallO X (.type "tuple") gTuple := callO_of call_tuple_of fun F H xs ds o Q sub vw e q => by
  cases vw with
  | nil => cases e
  | cons h t =>
    cases t with
    | cons _ _ => rename_i d _ _ _ _ _ _; cases d <;> cases e
    | nil =>
      rename_i x d
      cases d with
      | list ds =>
        cases e
        obtain ⟨p, vs, rfl, h1, h2⟩ := h
        exact ⟨_, _, rfl, .inl ⟨SqL.of h1, fun p hp => q _ _ _ (.tup hp h2)⟩⟩
      | tuple ds =>
        cases e
        have h' : DV X.K F x (.tuple ds) := h
        cases h' with
        | tup h1 h2 => exact ⟨_, _, rfl, .inr ⟨sub.sqT h1, q _ _ _ (.asis (.tup h1 h2))⟩⟩
      | _ => cases e
def gInt : List PyData → Option OD
  | [.int i] => some (.sh (.int i))
  | [.bool b] => some (.sh (.int (if b then 1 else 0)))
  | _ => none
theorem co_int : CallO X (.type "int") gInt := callO_of call_int1 fun F H xs ds o Q sub vw e q => by
  cases vw with
  | nil => cases e
  | cons h t =>
    cases t with
    | cons _ _ => rename_i d _ _ _ _ _ _; cases d <;> cases e
    | nil =>
      rename_i x d
      cases d with
      | int i => cases e; cases h; exact .inl ⟨i, rfl, q _ _ _ (.asis (.int _))⟩
      | bool i => cases e; cases h; exact .inr ⟨i, rfl, q _ _ _ (.asis (.int _))⟩
      | _ => cases e
def gRepr : List PyData → Option OD
  | [d] => if d.showable = true ∧ d.shown.length ≤ sizeLine ∧ small d = true then some (.sh (.str d.shown)) else none
  | _ => none
theorem co_repr (hg : X.A.guards = some []) (hu : X.A.units + 64 < cLine) : CallO X (.builtin "repr") gRepr := by
  intro pins s σ F H xs us ds o Q I r sub vw e q
  cases vw with
  | nil => cases e
  | cons h t =>
    cases t with
    | cons _ _ => cases e
    | nil =>
      rename_i x d
      simp only [gRepr] at e
      split at e <;> cases e
      rename_i hz
      obtain ⟨z1, z2, z3⟩ := hz
      obtain ⟨u, rfl, ru⟩ := vals1 r
      have dv := h.dv sub
      obtain ⟨as, rd⟩ := dv.reads I ru
      have hd : d.depth ≤ 60 := of_decide_eq_true z3
      have fin : ∀ s' : Shared, Inv X pins σ H s' → ∀ t, EP X pins σ Q (.str d.shown t) s' := fun s' I' t => ⟨.str d.shown, H, I', ⟨t, rfl⟩, q _ _ _ (.asis (.str _))⟩
      cases d with
      | none => cases dv; cases ru; simp only [PyData.shown] at fin; exact P.repr_of_none (fin _ (I.tok _) _)
      | bool b => cases dv; cases ru; simp only [PyData.shown] at fin; exact P.repr_of_bool (fin _ (I.tok _) _)
      | int i => cases dv; obtain ⟨t, rfl⟩ := ru; simp only [PyData.shown] at fin; exact P.repr_of_int (by simpa [PyData.showable] using z1) (fin _ (I.tok _) _)
      | str i => cases dv; obtain ⟨t, rfl⟩ := ru; simp only [PyData.shown] at fin z2; exact P.repr_of_str (fin _ (I.tok _) _) z2
      | list ds =>
        cases dv with
        | lst h1 h2 => cases ru; exact repr_of_reads' rd z1 (fun z => by have := (DV.lst h1 h2).noDict; rw [this] at z; cases z) hg (by omega) (fun _ _ z => z) (fun h' u tk k => fin _ (I.kept k) u) z2
      | tuple ds =>
        cases dv with
        | tup h1 h2 => cases ru; exact repr_of_reads' rd z1 (fun z => by have := (DV.tup h1 h2).noDict; rw [this] at z; cases z) hg (by omega) (fun _ _ z => z) (fun h' u tk k => fin _ (I.kept k) u) z2
      | dict _ => cases dv
end
end Eg
namespace Eg
open PySem L2 PySem.W PySem.SeqAt PySem.Spec PyProof.Rows
section
variable {A : Around} {s : Shared} {prog : Program} {w : World} {E : Value → Shared → Prop}
/-- the items of a tuple, gathered -/
theorem coll_tup {t : Addr} {vs : List Value} {Q : List Value → Shared → Prop} (ht : IsTup s.heap t vs.toArray) (hz : vs.length ≤ sizeLine)
    (h : Q vs { s with heap := (s.heap.push (seqObj "list" #[] 0)).update s.heap.objs.size (Obj.mapSeq (· ++ vs.toArray)) }) : wpAny (model prog w) A (collect (.ref t)) Q E s := by
  obtain ⟨ob, hob, hcl, nn, hdt⟩ := id ht
  unfold collect
  refine wpAny_bind (wpAny_runValue (codeAny_builtin PyProof.Rows.entry_proto_collect' ?_))
  show wpAny _ _ (do again (.builtin "list.__iadd__" ⟨[← newList [], .ref t], []⟩)) _ _ s
  refine wpAny_bind (wpAny_newList (wpAny_pure ⟨Code.quiet_builtin _ (by decide +kernel), codeAny_builtin PyProof.Rows.entry_list_iadd' ?_⟩))
  have hob' : (s.heap.push (seqObj "list" #[] 0)).get? t = some ob := Heap.get?_push_of_some _ hob
  show wpAny _ _ (Builtin.List.listExtendWith (.ref s.heap.objs.size) (.ref t) (.ref s.heap.objs.size)) _ _ { s with heap := s.heap.push (seqObj "list" #[] 0) }
  delta Builtin.List.listExtendWith
  refine wpAny_bind (wpAny_typeOf (T := "tuple") ⟨ob, hob', hcl⟩ ?_)
  rw [if_pos (by rw [show (Value.type "tuple" == Value.type "tuple") = true by rfl]; simp)]
  refine wpAny_bind (PyProof.Rows.listItems_at hob' hdt (wpAny_bind (PyProof.Rows.listItems_at (xs := #[]) (n := 0) (Heap.get?_push_size _ rfl) rfl ?_)))
  rw [if_neg (by simp)]
  refine wpAny_bind (PyProof.Rows.listUpdate_at (xs := #[]) (n := 0) (Heap.get?_push_size _ rfl) rfl (wpAny_pure ?_) (Nat.zero_le _) (by show (#[] ++ vs.toArray).size ≤ sizeLine + 1; simp only [Array.size_append, List.size_toArray, List.length_nil]; omega))
  show wpAny _ A (load s.heap.objs.size >>= _) Q E _
  refine wpAny_bind (wpAny_load (PyProof.Rows.get?_update_seq (Heap.get?_push_size _ rfl) _) ?_)
  have e0 : ((#[] : Array Value) ++ vs.toArray).toList = vs := by simp
  show wpAny (model prog w) A (pure ((#[] : Array Value) ++ vs.toArray).toList) Q E _
  rw [e0]
  exact wpAny_pure h
/-- sorted(t) of a tuple -/
theorem sorted_tupv {κ : PyProof.Rows.KeyKind} {t : Addr} {vs : List Value} {Q : Value → Shared → Prop} (ht : IsTup s.heap t vs.toArray) (S : SortsAt prog w A.in1.in1 { s with heap := sortingHeap (copyHeap s.heap vs) (s.heap.objs.size + 1) vs } κ vs) (hz : vs.length ≤ sizeLine)
    (h : Q (.ref (s.heap.objs.size + 1)) { s with heap := sortedAll s.heap vs (sortVals κ false vs vs).toArray }) : wpAny (model prog w) A (call (.builtin "sorted") [.ref t]) Q E s := by
  have sz : ((s.heap.push (seqObj "list" #[] 0)).update s.heap.objs.size (Obj.mapSeq (· ++ vs.toArray))).objs.size = s.heap.objs.size + 1 := by rw [Heap.size_update, PyProof.Rows.size_push']
  refine call_function_entry_kw kind_sorted plain_sorted entry_sorted (args_sorted1 _) ?_
  unfold Builtin.«sorted»
  refine wpAny_bind (m := checkCount "sorted" 1 1 _) (wpAny_pure (wpAny_bind (coll_tup ht hz (wpAny_bind (wpAny_newList ?_ hz)))))
  show wpAny (model prog w) _ _ _ _ { s with heap := copyHeap s.heap vs }
  rw [sz]
  refine wpAny_bind (wpAny_holding (wpAny_call_entry_kw slot_list_sort ⟨_, copyHeap_at s.heap vs, rfl⟩ entry_list_sort ?go (args_list_sort _)))
  case go =>
    show wpAny (model prog w) A.in1.in1 (Builtin.«list.sort» ⟨[.ref (s.heap.objs.size + 1)], []⟩) _ _ _
    exact list_sort_vals (s := { s with heap := copyHeap s.heap vs }) (copyHeap_at s.heap vs) S hz ⟨_, rfl, wpAny_pure ⟨_, rfl, h⟩⟩
end
/-! ## sorted -/
def alikeB (ds : List PyData) : Bool := ds.all fun d => ds.all fun e => alike d e
def isTup1 : PyData → Bool
  | .tuple (_ :: _) => true
  | _ => false
def noTup : PyData → Bool
  | .tuple _ => false
  | .none => false
  | _ => true
def sortOk (ds : List PyData) : Bool := alikeB ds && (ds.all isTup1 || ds.all noTup) && ds.all small && decide (ds.length ≤ sizeLine)
def sortD (ds : List PyData) : List PyData := ds.mergeSort (dataLe false id)
def gSorted : List PyData → Option OD
  | [.list ds] => if sortOk ds = true then some (.ol (sortD ds)) else none
  | [.tuple ds] => if sortOk ds = true then some (.ol (sortD ds)) else none
  | _ => none
theorem sortOk_at {ds : List PyData} (h : sortOk ds = true) : AllAlike ds ∧ Sortable ds ∧ (∀ d, d ∈ ds → d.depth ≤ 60) ∧ ds.length ≤ sizeLine := by
  unfold sortOk at h
  simp only [Bool.and_eq_true, Bool.or_eq_true, List.all_eq_true, decide_eq_true_eq, alikeB] at h
  obtain ⟨⟨⟨h1, h2⟩, h3⟩, h4⟩ := h
  refine ⟨fun d hd d' hd' => h1 d hd d' hd', ?_, fun d hd => of_decide_eq_true (h3 d hd), h4⟩
  rcases h2 with h2 | h2
  · refine .inl fun d hd => ?_
    have := h2 d hd
    cases d with
    | tuple xs => cases xs with
      | nil => cases this
      | cons x r => exact ⟨x, r, rfl⟩
    | _ => cases this
  · refine .inr fun d hd => ?_
    have := h2 d hd
    cases d <;> first | (cases this; done) | exact ⟨fun z => (by cases z), fun _ z => by cases z⟩
section
variable {X : Cx} {K : PySem.W.Frag} {pins : List (Addr × Obj)} {σ : L2.St} {H : Hp} {s : Shared}
theorem dvs_each {F : Hp} : ∀ {vs : List V} {us : List Value} {ds : List PyData}, DVs K F vs ds → Vals vs us → EachIs (fun v d => ∃ x, RelV x v ∧ DV K F x d) us ds
  | _, _, _, .nil, .nil => .nil
  | _, _, _, .cons h t, .cons r q => .cons ⟨_, r, h⟩ (dvs_each t q)
theorem each_dvs {F : Hp} : ∀ {us : List Value} {ds : List PyData}, EachIs (fun v d => ∃ x, RelV x v ∧ DV K F x d) us ds → ∃ vs, DVs K F vs ds ∧ Vals vs us
  | _, _, .nil => ⟨[], .nil, .nil⟩
  | _, _, .cons ⟨x, r, h⟩ t => by
    obtain ⟨vs, h2, r2⟩ := each_dvs t
    exact ⟨x :: vs, .cons h h2, .cons r r2⟩
theorem co_sorted (hu : X.A.units + 64 < cLine) : CallO X (.builtin "sorted") gSorted := by
  intro pins s σ F H xs us ds o Q I r sub vw e q
  cases vw with
  | nil => cases e
  | cons h t =>
    cases t with
    | cons _ _ => rename_i d _ _ _ _ _ _; cases d <;> cases e
    | nil =>
      rename_i x d
      obtain ⟨u, rfl, ru⟩ := vals1 r
      have core : ∀ (es : List PyData) (vs : List V) (its : List Value), sortOk es = true → some (OD.ol (sortD es)) = some o → DVs X.K F vs es → Vals vs its →
          (∀ out : List Value, out.length = es.length → EachIs (fun v d => ∃ x, RelV x v ∧ DV X.K F x d) out (sortD es) → EP X pins σ Q (.ref (s.heap.objs.size + 1)) { s with heap := sortedAll s.heap its out.toArray }) ∧
          EachIs (fun v d => ∃ x, RelV x v ∧ DV X.K F x d) its es ∧ EachIs (fun v d => ∃ as, Reads s.heap v d as) its es := fun es vs its ok eo dv rv => by
        have ea := dvs_each dv rv
        refine ⟨fun out hl eo' => ?_, ea, ea.mono fun v d ⟨x, r, h⟩ => (DV.mono sub h).reads I r⟩
        obtain ⟨ws, d2, r2⟩ := each_dvs eo'
        obtain ⟨ep, he'⟩ := PyProof.Rows.sortedAll_at s.heap its out.toArray
        obtain ⟨_, _, _, z4⟩ := sortOk_at ok
        have hn : H (s.heap.objs.size + 1) = none := I.hok.fresh (Nat.le_succ _)
        cases eo
        exact ⟨.ref _, upd H (s.heap.objs.size + 1) (.lst ws), I.laid (t' := s.toks) (fun _ _ => PyProof.Rows.sortedAll_old) (Nat.le_succ _) ⟨by rw [r2.length, hl]; exact z4, out, ep, r2, he'⟩, rfl, q _ _ _ (.lst hn d2)⟩
      cases d with
      | list es =>
        simp only [gSorted] at e
        split at e <;> try cases e
        rename_i ok
        obtain ⟨p, vs, rfl, h1, h2⟩ := h
        cases ru
        obtain ⟨its, rv, pl, _⟩ := I.list (SqL.of h1)
        obtain ⟨c1, c2, c3⟩ := core es vs its ok rfl h2 rv
        obtain ⟨z1, z2, z3, z4⟩ := sortOk_at ok
        exact sorted_data (enc := id) (bs := es) pl.isList c2 c3 (by simpa using z1) (by simpa using z2) z4 (fun b hb => by have := z3 b hb; show X.A.units + 2 + b.depth < cLine; omega) c1
      | tuple es =>
        simp only [gSorted] at e
        split at e <;> try cases e
        rename_i ok
        have h' : DV X.K F x (.tuple es) := h
        cases h' with
        | tup h1 h2 =>
          cases ru
          obtain ⟨its, rv, pl, _⟩ := I.tuple (sub.sqT h1)
          obtain ⟨c1, c2, c3⟩ := core es _ its ok rfl h2 rv
          obtain ⟨z1, z2, z3, z4⟩ := sortOk_at ok
          have er' : EachIs (fun v d => ∃ as, Reads (sortingHeap (copyHeap s.heap its) (s.heap.objs.size + 1) its) v d as) its es := c3.mono fun _ _ ⟨as, r⟩ => ⟨as, PyProof.Rows.Reads.keeps (fun _ _ => sorting_copy_old) r⟩
          refine sorted_tupv pl (SortsAt.data (s := { s with heap := sortingHeap (copyHeap s.heap its) (s.heap.objs.size + 1) its }) er' z1 z2 fun d hd => ?_) (by rw [← rv.length, h2.len]; exact z4) ?_
          · have := z3 d hd
            show X.A.units + 1 + 1 + d.depth < cLine
            omega
          · refine c1 _ ?_ ?_
            · rw [sortVals_length false rfl, ← rv.length, h2.len]
            · have := sortVals_data (enc := id) (bs := es) false c2 (by simpa using er') (by simpa using z1)
              simpa [sortD] using this
      | _ => cases e
end
end Eg
namespace Eg
open PySem L2 PySem.W PySem.SeqAt PySem.Spec PyProof.Rows
section
variable {A : Around} {s : Shared} {prog : Program} {w : World} {E : Value → Shared → Prop}
theorem best1 (bt : Nat → Nat → Bool) : argBest bt 1 = if bt 1 0 = true then 1 else 0 := rfl
theorem alike_two {x y : PyData} (h1 : alike y x = true) (hx : x ≠ .none) (hy : y ≠ .none) (a1 : alike x x = true) (a2 : alike y y = true) (a3 : alike x y = true) : AlikeAll [x, y] := by
  refine ⟨fun d hd e he => ?_, fun d hd => ?_⟩
  · simp only [List.mem_cons, List.not_mem_nil, or_false] at hd he
    rcases hd with rfl | rfl <;> rcases he with rfl | rfl <;> assumption
  · simp only [List.mem_cons, List.not_mem_nil, or_false] at hd
    rcases hd with rfl | rfl <;> assumption
/-- min(a, b) by data -/
theorem min2D {a b : Value} {x y : PyData} {as bs : List Addr} {Q : Value → Shared → Prop} (hh : A.handled = none) (ra : Reads s.heap a x as) (rb : Reads s.heap b y bs) (al : AlikeAll [x, y]) (hu : A.units + 1 + PyData.depthAll [x, y] < cLine)
    (h : ∀ h' tk, (∀ c o, s.heap.get? c = some o → h'.get? c = some o) → Q (if dataLt y x = true then b else a) { s with heap := h', toks := tk }) : wpAny (model prog w) A (call (.builtin "min") [a, b]) Q E s := by
  have nm : (toString "min" ++ toString ".loop" : String) = "min.loop" := by decide
  refine call_function_tree (F.kind_min) F.plain_min F.entry_min (F.args_min2 _ _) ?_
  show wpAny _ A.in1 (Builtin.Builtins.bindParams "min" ["key", "default"] 0 ⟨[], []⟩ >>= fun _ => _) _ _ s
  refine wpAny_bind (wpAny_of_eq (show Builtin.Builtins.bindParams "min" ["key", "default"] 0 ⟨[], []⟩ = pure [none, none] from rfl) (wpAny_bind (wpAny_newObj_type ?_)))
  generalize hS : ({ s with heap := s.heap.push { cls := .type "tuple", data := .seq [a, b].toArray } } : Shared) = s1
  have k1 : ∀ c o, s.heap.get? c = some o → s1.heap.get? c = some o := fun c o e => by rw [← hS]; exact Heap.get?_push_of_some _ e
  have hT : s1.heap.IsTuple s.heap.objs.size #[a, b] := by rw [← hS]; exact ⟨_, Heap.get?_push_size _ rfl, rfl, 0, rfl⟩
  have rd : ReadsAll s1.heap (#[a, b] : Array Value).toList [x, y] _ := .cons (Reads.keeps k1 ra) (.cons (Reads.keeps k1 rb) .nil)
  refine wpAny_bind (iter_tupleW (A := A.in1) hh hT fun s2 e2 W st hfp hw hk => ?_)
  refine wpAny_bind (wpAny_newObj_type ?_)
  rw [nm]
  refine wpAny_pure ⟨plainId_quiet F.plain_min_loop _, codeAny_min_loop_firstH W s1.heap hw _ (cmpIn_lt (A := A.in1) rd al (by show A.units + 1 + _ < _; exact hu)) s2.heap.objs.size (fun z => Nat.lt_irrefl _ (hfp _ z)) (fresh_in hk) _ (by simp)
    (fun c o e => Heap.get?_push_of_some _ (hk c o e)) (W.frame 0 s2 _ s2.toks st (Nat.le_refl _) fun c _ o e => Heap.get?_push_of_some _ e) (Heap.get?_push_size _ rfl) fun v s' hP hm => ?_⟩
  obtain ⟨h', tk, rfl, hk'⟩ := moved_old e2 rfl (Moved.drop_new (tk := s2.toks) hm (Nat.le_refl _))
  have hv : v = if dataLt y x = true then b else a := by
    have hP' : (#[a, b] : Array Value)[argBest (fun i j => dataLt ([x, y].getD i .none) ([x, y].getD j .none)) 1]? = some v := hP
    rw [best1] at hP'
    simp only [List.getD_cons_zero, List.getD_cons_succ] at hP'
    cases q : dataLt y x with
    | true => rw [q] at hP'; simpa using hP'.symm
    | false => rw [q] at hP'; simpa using hP'.symm
  rw [hv]
  have := h h' tk (fun c o e => hk' c o (k1 c o e))
  rw [← hS]
  exact this
theorem max2D {a b : Value} {x y : PyData} {as bs : List Addr} {Q : Value → Shared → Prop} (hh : A.handled = none) (ra : Reads s.heap a x as) (rb : Reads s.heap b y bs) (al : AlikeAll [x, y]) (hu : A.units + 1 + PyData.depthAll [x, y] < cLine)
    (h : ∀ h' tk, (∀ c o, s.heap.get? c = some o → h'.get? c = some o) → Q (if dataLt x y = true then b else a) { s with heap := h', toks := tk }) : wpAny (model prog w) A (call (.builtin "max") [a, b]) Q E s := by
  have nm : (toString "max" ++ toString ".loop" : String) = "max.loop" := by decide
  refine call_function_tree (F.kind_max) F.plain_max F.entry_max (F.args_max2 _ _) ?_
  show wpAny _ A.in1 (Builtin.Builtins.bindParams "max" ["key", "default"] 0 ⟨[], []⟩ >>= fun _ => _) _ _ s
  refine wpAny_bind (wpAny_of_eq (show Builtin.Builtins.bindParams "max" ["key", "default"] 0 ⟨[], []⟩ = pure [none, none] from rfl) (wpAny_bind (wpAny_newObj_type ?_)))
  generalize hS : ({ s with heap := s.heap.push { cls := .type "tuple", data := .seq [a, b].toArray } } : Shared) = s1
  have k1 : ∀ c o, s.heap.get? c = some o → s1.heap.get? c = some o := fun c o e => by rw [← hS]; exact Heap.get?_push_of_some _ e
  have hT : s1.heap.IsTuple s.heap.objs.size #[a, b] := by rw [← hS]; exact ⟨_, Heap.get?_push_size _ rfl, rfl, 0, rfl⟩
  have rd : ReadsAll s1.heap (#[a, b] : Array Value).toList [x, y] _ := .cons (Reads.keeps k1 ra) (.cons (Reads.keeps k1 rb) .nil)
  refine wpAny_bind (iter_tupleW (A := A.in1) hh hT fun s2 e2 W st hfp hw hk => ?_)
  refine wpAny_bind (wpAny_newObj_type ?_)
  rw [nm]
  refine wpAny_pure ⟨plainId_quiet F.plain_max_loop _, codeAny_max_loop_firstH W s1.heap hw _ (cmpIn_gt (A := A.in1) rd al (by show A.units + 1 + _ < _; exact hu)) s2.heap.objs.size (fun z => Nat.lt_irrefl _ (hfp _ z)) (fresh_in hk) _ (by simp)
    (fun c o e => Heap.get?_push_of_some _ (hk c o e)) (W.frame 0 s2 _ s2.toks st (Nat.le_refl _) fun c _ o e => Heap.get?_push_of_some _ e) (Heap.get?_push_size _ rfl) fun v s' hP hm => ?_⟩
  obtain ⟨h', tk, rfl, hk'⟩ := moved_old e2 rfl (Moved.drop_new (tk := s2.toks) hm (Nat.le_refl _))
  have hv : v = if dataLt x y = true then b else a := by
    have hP' : (#[a, b] : Array Value)[argBest (fun i j => dataLt ([x, y].getD j .none) ([x, y].getD i .none)) 1]? = some v := hP
    rw [best1] at hP'
    simp only [List.getD_cons_zero, List.getD_cons_succ] at hP'
    cases q : dataLt x y with
    | true => rw [q] at hP'; simpa using hP'.symm
    | false => rw [q] at hP'; simpa using hP'.symm
  rw [hv]
  have := h h' tk (fun c o e => hk' c o (k1 c o e))
  rw [← hS]
  exact this
end
def pairOk (x y : PyData) : Bool := alike x y && alike y x && alike x x && alike y y && !isNon x && !isNon y && small x && small y
def isLst : PyData → Bool
  | .list _ => true
  | _ => false
def gMin : List PyData → Option OD
  | [x, y] => if pairOk x y = true ∧ isLst x = false ∧ isLst y = false then some (.sh (if dataLt y x = true then y else x)) else none
  | _ => none
def gMax : List PyData → Option OD
  | [x, y] => if pairOk x y = true ∧ isLst x = false ∧ isLst y = false then some (.sh (if dataLt x y = true then y else x)) else none
  | _ => none
theorem pairOk_at {x y : PyData} (h : pairOk x y = true) : AlikeAll [x, y] ∧ PyData.depthAll [x, y] ≤ 60 := by
  unfold pairOk at h
  simp only [Bool.and_eq_true, Bool.not_eq_true'] at h
  obtain ⟨⟨⟨⟨⟨⟨⟨h1, h2⟩, h3⟩, h4⟩, h5⟩, h6⟩, h7⟩, h8⟩ := h
  have n5 : x ≠ .none := fun z => by subst z; cases h5
  have n6 : y ≠ .none := fun z => by subst z; cases h6
  refine ⟨alike_two h2 n5 n6 h3 h4 h1, ?_⟩
  have d1 : x.depth ≤ 60 := of_decide_eq_true h7
  have d2 : y.depth ≤ 60 := of_decide_eq_true h8
  simp only [PyData.depthAll]
  omega
section
variable {X : Cx}
theorem Vw.noLst {K : PySem.W.Frag} {F H : Hp} {v : V} {d : PyData} (h : Vw K F H v d) (n : isLst d = false) : DV K F v d := by
  cases d with
  | list _ => cases n
  | _ => exact h
theorem co_min (hc : X.calm = true) (hu : X.A.units + 64 < cLine) : CallO X (.builtin "min") gMin := by
  intro pins s σ F H xs us ds o Q I r sub vw e q
  match ds, vw, e with
  | [x, y], .cons (v := v1) h1 (.cons (v := v2) h2 .nil), e =>
    simp only [gMin] at e
    split at e <;> cases e
    rename_i hz
    obtain ⟨z1, z2, z3⟩ := hz
    obtain ⟨al, dp⟩ := pairOk_at z1
    obtain ⟨u1, u2, rfl, r1, r2⟩ := vals2 r
    have d1 := h1.noLst z2
    have d2 := h2.noLst z3
    obtain ⟨as, rd1⟩ := (DV.mono sub d1).reads I r1
    obtain ⟨bs, rd2⟩ := (DV.mono sub d2).reads I r2
    refine min2D (I.ok.hd hc) rd1 rd2 al (by omega) fun h' tk k => ?_
    cases q0 : dataLt y x with
    | true => rw [q0] at q; exact ⟨v2, H, I.kept k, r2, q _ _ _ (.asis d2)⟩
    | false => rw [q0] at q; exact ⟨v1, H, I.kept k, r1, q _ _ _ (.asis d1)⟩
theorem co_max (hc : X.calm = true) (hu : X.A.units + 64 < cLine) : CallO X (.builtin "max") gMax := by
  intro pins s σ F H xs us ds o Q I r sub vw e q
  match ds, vw, e with
  | [x, y], .cons (v := v1) h1 (.cons (v := v2) h2 .nil), e =>
    simp only [gMax] at e
    split at e <;> cases e
    rename_i hz
    obtain ⟨z1, z2, z3⟩ := hz
    obtain ⟨al, dp⟩ := pairOk_at z1
    obtain ⟨u1, u2, rfl, r1, r2⟩ := vals2 r
    have d1 := h1.noLst z2
    have d2 := h2.noLst z3
    obtain ⟨as, rd1⟩ := (DV.mono sub d1).reads I r1
    obtain ⟨bs, rd2⟩ := (DV.mono sub d2).reads I r2
    refine max2D (I.ok.hd hc) rd1 rd2 al (by omega) fun h' tk k => ?_
    cases q0 : dataLt x y with
    | true => rw [q0] at q; exact ⟨v2, H, I.kept k, r2, q _ _ _ (.asis d2)⟩
    | false => rw [q0] at q; exact ⟨v1, H, I.kept k, r1, q _ _ _ (.asis d1)⟩
end
end Eg
namespace Eg
open PySem L2 PySem.W PySem.SeqAt
section
variable {X : Cx} {C : Ct} {e a b c : Expr} {es : List Expr} {pos apos cpos : Pos}
/-! ## tests -/
theorem _root_.L2.PT.imp {t t' : TT} (h : PT X e t) (i : ∀ σ H Q, t' σ H Q → t σ H Q) : PT X e t' := ⟨fun pins s σ H Q I q => h.run pins s σ H Q I (i _ _ _ q)⟩
theorem _root_.L2.PW.imp {t t' : TT} (h : PW X e t) (i : ∀ σ H Q, t' σ H Q → t σ H Q) : PW X e t' := ⟨fun w pins s σ H Q I q => h.run w pins s σ H Q I (i _ _ _ q)⟩
def asBool : PyData → M Bool
  | .bool b => M.ret b
  | _ => M.bad
theorem asBool_post {β : Type} {σ : St} {ρ ρ0 : Rho} {F H : Hp} {Q : Bool → Hp → Prop} {d : PyData} {v : V} {K : PySem.W.Frag} (sr : SR C.K F H σ ρ) (h : DV K F v d) (p : PostE (β := Bool) C (fun _ _ _ _ _ _ v d => v = d) σ ρ F H Q (asBool d ρ)) : ∃ k, v = .bl k ∧ Q k H := by
  cases d with
  | bool b => cases h; exact ⟨b, rfl, p F H b Grow.refl sr rfl⟩
  | _ => exact p.elim
theorem t_of_d {m : M PyData} (h : PE X e (tD C m)) (he : ∀ whole, isTrue e X.env whole = (do let v ← whole; standAt e.pos; holding [v] (truthy v)) := by intro _; rfl) : PT X e (tT C (m.bind asBool)) :=
  (pt_val h he).imp fun σ H Q ⟨F, ρ, sr, p⟩ => ⟨F, ρ, sr, p.part fun d ρ1 F1 H1 x e1 q1 g1 s1 r1 => asBool_post (β := Bool) (ρ0 := ρ) s1 r1 (q1.on stb_T g1)⟩
/-- a comparison's rule, by values -/
def rOp (K : PySem.W.Frag) (g : PyData → PyData → Option PyData) : R2 := fun x y H Q => ∃ dx dy d, DV K H x dx ∧ DV K H y dy ∧ g dx dy = some d ∧ ∀ w, atom d = some w → Q w H
theorem opR_of {f : Value → Value → Sem Value} {g : PyData → PyData → Option PyData} (ho : OpD X f g) : OpR X f (rOp X.K g) :=
  fun pins s σ H x y v u Q I rx ry ⟨dx, dy, d, h1, h2, e, q⟩ => ho pins s σ H x y v u dx dy d Q I rx ry h1 h2 e q
theorem t_cmp {op : CmpOp} {g : PyData → PyData → Option PyData} {ma mb : M Arg} (ho : OpD X (compareOp op) g) (ha : PE X a (tA C ma)) (hb : PE X b (tA C mb)) (hK : X.K = C.K := by rfl)
    (hm : behindInMarks op b = false := by first | exact nobehind _ (by decide) (by decide) | rfl) : PT X (.Compare a [op] [b] pos) (tT C ((m2 g ma mb).bind asBool)) := by
  refine (pt_cmpR (opR_of ho) ha hb hm).imp fun σ H Q ⟨F, ρ, sr, p⟩ => ?_
  have p' : PostE C (rD C.K) σ ρ F H (fun x H' => ∃ k, x = V.bl k ∧ Q k H') (m2 g ma mb ρ) := p.part fun d ρ1 F1 H1 x e1 q1 g1 s1 r1 => asBool_post (β := Bool) (ρ0 := ρ) s1 r1 (q1.on stb_T g1)
  exact two sr stb_D p' fun x y dx dy d ρ2 F2 H2 s2 r1 r2 e q => by
    rw [hK]
    exact ⟨dx, dy, d, r1.dv s2.sub, r2.dv s2.sub, e, fun w hw => q F2 H2 w Grow.refl s2 (atom_dv hw)⟩
def mAnd (ma mb : M Bool) : M Bool := ma.bind fun b => if b = true then mb else M.ret false
def mOr (ma mb : M Bool) : M Bool := ma.bind fun b => if b = true then M.ret true else mb
theorem w_one1 {ma : M Bool} (ha : PT X a (tT C ma)) : PW X (.BoolOp .And [a] pos) (tT C ma) := pw_and1 ha
theorem w_one2 {ma : M Bool} (ha : PT X a (tT C ma)) : PW X (.BoolOp .Or [a] pos) (tT C ma) := pw_or1 ha
theorem w_and {ma mb : M Bool} (ha : PT X a (tT C ma)) (hb : PW X (.BoolOp .And (b :: es) pos) (tT C mb)) : PW X (.BoolOp .And (a :: b :: es) pos) (tT C (mAnd ma mb)) :=
  (pw_and ha hb).imp fun σ H Q ⟨F, ρ, sr, p⟩ => ⟨F, ρ, sr, p.part fun k ρ1 F1 H1 x e1 q1 g1 s1 r1 => by
    subst r1
    have q1 := q1.on stb_T g1
    cases x with
    | true => exact ⟨F1, ρ1, s1, q1⟩
    | false => exact q1 F1 H1 false Grow.refl s1 rfl⟩
theorem w_or {ma mb : M Bool} (ha : PT X a (tT C ma)) (hb : PW X (.BoolOp .Or (b :: es) pos) (tT C mb)) : PW X (.BoolOp .Or (a :: b :: es) pos) (tT C (mOr ma mb)) :=
  (pw_or ha hb).imp fun σ H Q ⟨F, ρ, sr, p⟩ => ⟨F, ρ, sr, p.part fun k ρ1 F1 H1 x e1 q1 g1 s1 r1 => by
    subst r1
    have q1 := q1.on stb_T g1
    cases x with
    | false => exact ⟨F1, ρ1, s1, q1⟩
    | true => exact q1 F1 H1 true Grow.refl s1 rfl⟩
theorem t_w {m : M Bool} (h : PW X e (tT C m)) : PT X e (tT C m) := h.pt
def mNot (ma : M Bool) : M Bool := ma.bind fun b => M.ret (!b)
theorem t_not {ma : M Bool} (ha : PT X a (tT C ma)) : PT X (.UnaryOp .Not a pos) (tT C (mNot ma)) :=
  (pt_not ha).imp fun σ H Q ⟨F, ρ, sr, p⟩ => ⟨F, ρ, sr, p.part fun k ρ1 F1 H1 x e1 q1 g1 s1 r1 => by subst r1; exact q1 F1 H1 _ g1 s1 rfl⟩
/-- as values: truths -/
def mAndV (ma mb : M PyData) : M PyData := ma.bind fun d => (asBool d).bind fun b => if b = true then mb else M.ret (.bool false)
def mOrV (ma mb : M PyData) : M PyData := ma.bind fun d => (asBool d).bind fun b => if b = true then M.ret (.bool true) else mb
def mNotV (ma : M PyData) : M PyData := ma.bind fun d => (asBool d).bind fun b => M.ret (.bool (!b))
theorem d_one {op : BoolOp} {m : M PyData} (h : PE X a (tD C m)) : PE X (.BoolOp op [a] pos) (tD C m) := pe_one h
theorem d_and {ma mb : M PyData} (ha : PE X a (tD C ma)) (hb : PE X (.BoolOp .And (b :: es) pos) (tD C mb)) : PE X (.BoolOp .And (a :: b :: es) pos) (tD C (mAndV ma mb)) :=
  (pe_and ha hb).imp fun σ H Q ⟨F, ρ, sr, p⟩ => ⟨F, ρ, sr, p.part fun d ρ1 F1 H1 x e1 q1 g1 s1 r1 => by
    have q1 := q1.on stb_D g1
    cases d with
    | bool k =>
      cases r1
      refine ⟨k, rfl, ?_⟩
      cases k with
      | true => exact ⟨F1, ρ1, s1, q1⟩
      | false => exact q1 F1 H1 _ Grow.refl s1 (.bl false)
    | _ => exact q1.elim⟩
theorem d_or {ma mb : M PyData} (ha : PE X a (tD C ma)) (hb : PE X (.BoolOp .Or (b :: es) pos) (tD C mb)) : PE X (.BoolOp .Or (a :: b :: es) pos) (tD C (mOrV ma mb)) :=
  (pe_or ha hb).imp fun σ H Q ⟨F, ρ, sr, p⟩ => ⟨F, ρ, sr, p.part fun d ρ1 F1 H1 x e1 q1 g1 s1 r1 => by
    have q1 := q1.on stb_D g1
    cases d with
    | bool k =>
      cases r1
      refine ⟨k, rfl, ?_⟩
      cases k with
      | false => exact ⟨F1, ρ1, s1, q1⟩
      | true => exact q1 F1 H1 _ Grow.refl s1 (.bl true)
    | _ => exact q1.elim⟩
theorem d_not {ma : M PyData} (ha : PE X a (tD C ma)) : PE X (.UnaryOp .Not a pos) (tD C (mNotV ma)) :=
  (pe_not ha).imp fun σ H Q ⟨F, ρ, sr, p⟩ => ⟨F, ρ, sr, p.part fun d ρ1 F1 H1 x e1 q1 g1 s1 r1 => by
    have q1 := q1.on stb_D g1
    cases d with
    | bool k => cases r1; exact ⟨k, rfl, q1 F1 H1 _ Grow.refl s1 (.bl _)⟩
    | _ => exact q1.elim⟩
/-- is None -/
def gIsN (d : PyData) : Option PyData := some (.bool (isNon d))
def gNotN (d : PyData) : Option PyData := some (.bool (!isNon d))
theorem vw_non {K : PySem.W.Frag} {F H : Hp} {v : V} {d : PyData} (h : Vw K F H v d) : decide (v = .non) = isNon d := by
  cases d with
  | list ds => obtain ⟨p, vs, rfl, _, _⟩ := h; rfl
  | _ => cases h <;> rfl
theorem one1 {ma : M Arg} {g : PyData → Option PyData} {σ : St} {ρ : Rho} {F H : Hp} {Q : VK} {R : V → Hp → Prop} (sr : SR C.K F H σ ρ) (p : PostE C (rD C.K) σ ρ F H Q (m1 g ma ρ))
    (k : ∀ x dx d ρ2 F2 H2, SR C.K F2 H2 σ ρ2 → Vw C.K F2 H2 x dx → g dx = some d → PostE C (rD C.K) σ ρ2 F2 H2 Q (.ok d ρ2) → R x H2) : tA C ma σ H R :=
  one sr stb_D p fun x a ρ1 F1 H1 s1 g1 r1 q1 => by
    obtain ⟨o, eo, q⟩ := lift_some q1
    cases ea : res1 ρ1 a with
    | none => rw [ea] at eo; cases eo
    | some d => rw [ea] at eo; exact k x d o ρ1 F1 H1 s1 (rA.view (ρ0 := ρ) (H0 := H) s1 r1 ea) eo q
theorem d_isN {j pos'} {ma : M Arg} (ha : PE X a (tA C ma)) : PE X (.Compare a [.Is] [.Constant .none j pos'] pos) (tD C (m1 gIsN ma)) :=
  (pe_cmp (pc_isN ha) rfl).imp fun σ H Q ⟨F, ρ, sr, p⟩ => one1 sr p fun x dx d ρ2 F2 H2 s2 r e q => by cases e; rw [vw_non r]; exact q F2 H2 _ Grow.refl s2 (.bl _)
theorem d_notN {j pos'} {ma : M Arg} (ha : PE X a (tA C ma)) : PE X (.Compare a [.IsNot] [.Constant .none j pos'] pos) (tD C (m1 gNotN ma)) :=
  (pe_cmp (pc_notN ha) rfl).imp fun σ H Q ⟨F, ρ, sr, p⟩ => one1 sr p fun x dx d ρ2 F2 H2 s2 r e q => by cases e; rw [vw_non r]; exact q F2 H2 _ Grow.refl s2 (.bl _)
theorem t_isN {j pos'} {ma : M Arg} (ha : PE X a (tA C ma)) : PT X (.Compare a [.Is] [.Constant .none j pos'] pos) (tT C ((m1 gIsN ma).bind asBool)) :=
  (pt_cmp (pc_isN ha) rfl).imp fun σ H Q ⟨F, ρ, sr, p⟩ => by
    have p' : PostE C (rD C.K) σ ρ F H (fun x H' => ∃ k, x = V.bl k ∧ Q k H') (m1 gIsN ma ρ) := p.part fun d ρ1 F1 H1 x e1 q1 g1 s1 r1 => asBool_post (β := Bool) (ρ0 := ρ) s1 r1 (q1.on stb_T g1)
    exact one1 sr p' fun x dx d ρ2 F2 H2 s2 r e q => by cases e; rw [vw_non r]; exact q F2 H2 _ Grow.refl s2 (.bl _)
theorem t_notN {j pos'} {ma : M Arg} (ha : PE X a (tA C ma)) : PT X (.Compare a [.IsNot] [.Constant .none j pos'] pos) (tT C ((m1 gNotN ma).bind asBool)) :=
  (pt_cmp (pc_notN ha) rfl).imp fun σ H Q ⟨F, ρ, sr, p⟩ => by
    have p' : PostE C (rD C.K) σ ρ F H (fun x H' => ∃ k, x = V.bl k ∧ Q k H') (m1 gNotN ma ρ) := p.part fun d ρ1 F1 H1 x e1 q1 g1 s1 r1 => asBool_post (β := Bool) (ρ0 := ρ) s1 r1 (q1.on stb_T g1)
    exact one1 sr p' fun x dx d ρ2 F2 H2 s2 r e q => by cases e; rw [vw_non r]; exact q F2 H2 _ Grow.refl s2 (.bl _)
/-- a if t else b -/
def mIf {γ : Type} (mt : M Bool) (ma mb : M γ) : M γ := mt.bind fun b => if b = true then ma else mb
theorem d_if {mt : M Bool} {ma mb : M PyData} (hc : PT X c (tT C mt)) (ha : PE X a (tD C ma)) (hb : PE X b (tD C mb)) : PE X (.IfExp c a b pos) (tD C (mIf mt ma mb)) :=
  (pe_ifExp hc ha hb).imp fun σ H Q ⟨F, ρ, sr, p⟩ => ⟨F, ρ, sr, p.part fun k ρ1 F1 H1 x e1 q1 g1 s1 r1 => by
    subst r1
    have q1 := q1.on stb_D g1
    cases x with
    | true => exact ⟨F1, ρ1, s1, q1⟩
    | false => exact ⟨F1, ρ1, s1, q1⟩⟩
theorem o_if {mt : M Bool} {ma mb : M OD} (hc : PT X c (tT C mt)) (ha : PE X a (tO C ma)) (hb : PE X b (tO C mb)) : PE X (.IfExp c a b pos) (tO C (mIf mt ma mb)) :=
  (pe_ifExp hc ha hb).imp fun σ H Q ⟨F, ρ, sr, p⟩ => ⟨F, ρ, sr, p.part fun k ρ1 F1 H1 x e1 q1 g1 s1 r1 => by
    subst r1
    have q1 := q1.on stb_O g1
    cases x with
    | true => exact ⟨F1, ρ1, s1, q1⟩
    | false => exact ⟨F1, ρ1, s1, q1⟩⟩
/-! ## lists that change -/
theorem SR.write {K : PySem.W.Frag} {F H : Hp} {σ : St} {ρ : Rho} {i : Nat} {a : Addr} {o o' : OD} {u : HO} (s : SR K F H σ ρ) (h : ρ[i]? = some (some o)) (io : o.isO = true) (hv : σ[i]? = some (some (.ref a))) (io' : o'.isO = true) (hr : OR K F (upd H a u) (.ref a) o') :
    SR K F (upd H a u) σ (ρ.set i (some o')) ∧ Grow (own σ ρ) (own σ (ρ.set i (some o'))) F H F (upd H a u) := by
  have fa : F a = none := (own.at s ⟨i, o, h, io, hv⟩).1
  have hl : i < ρ.length := (List.getElem?_eq_some_iff.mp h).1
  have w := s.wipe i
  have s1 : SR K F (upd H a u) σ (ρ.set i none) := by
    refine w.on (Same.refl _) (fun b x e => by rw [upd_ne (ne_of_none e fa)]; exact s.sub b x e) fun b hb => ?_
    obtain ⟨f1, x, h1⟩ := own.at w hb
    refine ⟨f1, fun x' e => ?_⟩
    rw [upd_ne (fun z => own.wipeNe s h io hv (by rw [← z]; exact hb))]
    exact e
  refine ⟨?_, Grow.less (Grow.wr ⟨i, o, h, io, hv⟩) fun b hb => ?_⟩
  · have s2 := SR.put (i := i) (o := o') s1 hv hr (fun _ b e => by
      cases e
      rw [List.set_set]
      exact own.wipeNe s h io hv)
    rw [List.set_set] at s2
    exact s2
  · rcases hb.put with z | ⟨_, z⟩
    · exact (own.wipe z).1
    · exact ⟨i, o, h, io, z⟩
/-- xs.append(e) of the slot i -/
def mAppend (i : Nat) (m : M PyData) : M PyData := m.bind fun d => fun ρ => match ρ[i]? with
  | some (some (.ol xs)) => if xs.length < sizeLine then .ok .none (ρ.set i (some (.ol (xs ++ [d])))) else .bad
  | _ => .bad
/-- what the slot is, at every state of the walk so far: a list of its own -/
def isOl (ρ : Rho) (i : Nat) : Bool := match ρ[i]? with
  | some (some (.ol _)) => true
  | _ => false
def mOl {γ : Type} (i : Nat) (m : M γ) : M γ := fun ρ => if isOl ρ i = true then m ρ else .bad
theorem isOl_at {ρ : Rho} {i : Nat} (h : isOl ρ i = true) : ∃ xs, ρ[i]? = some (some (.ol xs)) := by
  unfold isOl at h
  split at h
  · rename_i xs e; exact ⟨xs, e⟩
  · cases h
theorem x_append {i : Nat} {o : Expr} {m : M PyData} (ho : PE X o (tVar i)) (he : PE X e (tD C m))
    (hbase : attributeBase o "append" X.env (eval o X.env) = eval o X.env := by rfl)
    (hfew : ((backTo cpos (starEach [e] X.env)).all (fun z => !z.1) && (backToKw cpos (keywordEach [] X.env)).all (fun z => z.1.isSome)
      && decide ([e].length + ([] : List Keyword).length + (if ([] : List Keyword).isEmpty then 0 else 1) < 30)) = true := by rfl)
    (hline : (apos.endLine == cpos.line) = true := by rfl) (hs : starEach [e] X.env = (false, eval e X.env) :: starEach [] X.env := by rfl) :
    PE X (.Call (.Attribute o "append" apos) [e] [] cpos) (tD C (mOl i (mAppend i m))) := by
  refine (pe_bm PySem.F.plainAttrs_list PySem.F.slot_list_append PySem.F.type_list_append mt_append ho (pa_cons he pa_nil hs) hbase hfew hline hs rfl).imp fun σ H Q ⟨F, ρ, sr, p⟩ => ?_
  unfold mOl at p
  split at p
  · rename_i hi
    obtain ⟨xs, ex⟩ := isOl_at hi
    obtain ⟨v, hv, a, vs, rfl, h1, h2, h3⟩ := sr.sl i _ ex
    refine ⟨_, hv, .inl ⟨rfl, vs, SqL.of h2⟩, F, ρ, sr, p.part fun d ρ1 F1 H1 y e1 q1 g1 s1 r1 => ?_⟩
    have q1 := q1.on stb_D g1
    cases q : ρ1[i]? with
    | none => simp only [q] at q1; exact q1.elim
    | some oo =>
      cases oo with
      | none => simp only [q] at q1; exact q1.elim
      | some oo =>
        cases oo with
        | ol ys =>
          simp only [q] at q1
          split at q1
          · rename_i hz
            obtain ⟨v', hv', b, ws, e2, k1, k2, k3⟩ := s1.sl i _ q
            rw [hv] at hv'; cases hv'; cases e2
            have st := SR.write (i := i) (o' := .ol (ys ++ [d])) (u := .lst (ws ++ [y])) s1 q rfl hv rfl ⟨a, ws ++ [y], rfl, k1, upd_same, k3.append (.cons r1 .nil)⟩
            exact ⟨a, ws, y, rfl, rfl, k2, by rw [k3.len]; exact hz, q1 F1 _ _ st.2 st.1 .non⟩
          · exact q1.elim
        | _ => simp only [q] at q1; exact q1.elim
  · exact p.elim
/-- xs.pop(k) of the slot i -/
def mPopAt (i : Nat) (m : M PyData) : M PyData := m.bind fun d => fun ρ => match d, ρ[i]? with
  | .int j, some (some (.ol xs)) => if -(2 ^ 63) ≤ j ∧ j < 2 ^ 63 then (match seqIndex? j xs.length with
      | some k => (match xs[k]? with
        | some y => .ok y (ρ.set i (some (.ol (xs.eraseIdx k))))
        | none => .bad)
      | none => .bad) else .bad
  | _, _ => .bad
theorem x_popAt {i : Nat} {o : Expr} {m : M PyData} (ho : PE X o (tVar i)) (he : PE X e (tD C m))
    (hbase : attributeBase o "pop" X.env (eval o X.env) = eval o X.env := by rfl)
    (hfew : ((backTo cpos (starEach [e] X.env)).all (fun z => !z.1) && (backToKw cpos (keywordEach [] X.env)).all (fun z => z.1.isSome)
      && decide ([e].length + ([] : List Keyword).length + (if ([] : List Keyword).isEmpty then 0 else 1) < 30)) = true := by rfl)
    (hline : (apos.endLine == cpos.line) = true := by rfl) (hs : starEach [e] X.env = (false, eval e X.env) :: starEach [] X.env := by rfl) :
    PE X (.Call (.Attribute o "pop" apos) [e] [] cpos) (tD C (mOl i (mPopAt i m))) := by
  refine (pe_bm PySem.F.plainAttrs_list PySem.F.slot_list_pop PySem.F.type_list_pop mt_popAt ho (pa_cons he pa_nil hs) hbase hfew hline hs rfl).imp fun σ H Q ⟨F, ρ, sr, p⟩ => ?_
  unfold mOl at p
  split at p
  · rename_i hi
    obtain ⟨xs, ex⟩ := isOl_at hi
    obtain ⟨v, hv, a, vs, rfl, h1, h2, h3⟩ := sr.sl i _ ex
    refine ⟨_, hv, .inl ⟨rfl, vs, SqL.of h2⟩, F, ρ, sr, p.part fun d ρ1 F1 H1 y e1 q1 g1 s1 r1 => ?_⟩
    have q1 := q1.on stb_D g1
    cases d with
    | int j =>
      cases q : ρ1[i]? with
      | none => simp only [q] at q1; exact q1.elim
      | some oo =>
        cases oo with
        | none => simp only [q] at q1; exact q1.elim
        | some oo =>
          cases oo with
          | ol ys =>
            simp only [q] at q1
            split at q1
            · rename_i hz
              cases ek : seqIndex? j ys.length with
              | none => simp only [ek] at q1; exact q1.elim
              | some k =>
                simp only [ek] at q1
                cases ey : ys[k]? with
                | none => simp only [ey] at q1; exact q1.elim
                | some z =>
                  simp only [ey] at q1
                  obtain ⟨v', hv', b, ws, e2, k1, k2, k3⟩ := s1.sl i _ q
                  rw [hv] at hv'; cases hv'; cases e2
                  obtain ⟨w, ew, dw⟩ := k3.get ey
                  cases r1
                  have st := SR.write (i := i) (o' := .ol (ys.eraseIdx k)) (u := .lst (ws.eraseIdx k)) s1 q rfl hv rfl ⟨a, ws.eraseIdx k, rfl, k1, upd_same, k3.erase k⟩
                  exact ⟨a, ws, j, k, w, rfl, rfl, k2, hz.1, hz.2, by rw [k3.len]; exact ek, ew, q1 F1 _ _ st.2 st.1 dw⟩
            · exact q1.elim
          | _ => simp only [q] at q1; exact q1.elim
    | _ => exact q1.elim
  · exact p.elim
end
end Eg
namespace Eg
open PySem L2 PySem.W PySem.SeqAt
/-! ## dicts of a slot: keys ints and texts -/
def keyD : PyData → Option Key
  | .int i => some (.inl i)
  | .str x => some (.inr x)
  | _ => none
theorem keyD_at {K : PySem.W.Frag} {H : Hp} {v : V} {d : PyData} {k : Key} (h : DV K H v d) (e : keyD d = some k) : v = kV k := by
  cases d <;> simp [keyD] at e <;> subst e <;> cases h <;> rfl
def dGet (kvs : List (Key × PyData)) (k : Key) : Option PyData := (kvs.find? fun kv => decide (kv.1 = k)).map (·.2)
def dPut (kvs : List (Key × PyData)) (k : Key) (v : PyData) : List (Key × PyData) :=
  if (kvs.any fun e => decide (e.1 = k)) = true then kvs.map (fun e => if e.1 = k then (e.1, v) else e) else kvs ++ [(k, v)]
section
variable {K : PySem.W.Frag} {H : Hp}
theorem KD.get {k : Key} : ∀ {es : List (Key × V)} {kvs : List (Key × PyData)} {d : PyData}, KD K H es kvs → dGet kvs k = some d → ∃ v, valV es k = some v ∧ DV K H v d
  | _, _, _, .nil, e => by cases e
  | _, _, d, .cons (k := k') (v := v) (d := d') h t, e => by
    by_cases q : k' = k
    · simp only [dGet, List.find?_cons, q, decide_true, Option.map_some] at e
      cases e
      exact ⟨v, valV_pos q, h⟩
    · simp only [dGet, List.find?_cons, q, decide_false] at e
      obtain ⟨w, e1, h1⟩ := KD.get t e
      exact ⟨w, by rw [valV_neg q]; exact e1, h1⟩
theorem KD.isIn {k : Key} : ∀ {es : List (Key × V)} {kvs : List (Key × PyData)}, KD K H es kvs → (valV es k).isSome = (dGet kvs k).isSome
  | _, _, .nil => rfl
  | _, _, .cons (k := k') (v := v) (d := d') h t => by
    by_cases q : k' = k
    · rw [valV_pos q]
      simp only [dGet, List.find?_cons, q, decide_true, Option.map_some, Option.isSome_some]
    · rw [valV_neg q, KD.isIn t]
      simp only [dGet, List.find?_cons, q, decide_false]
theorem KD.anyK {k : Key} : ∀ {es : List (Key × V)} {kvs : List (Key × PyData)}, KD K H es kvs → (es.any fun kv => decide (kv.1 = k)) = (kvs.any fun kv => decide (kv.1 = k))
  | _, _, .nil => rfl
  | _, _, .cons h t => by rw [List.any_cons, List.any_cons, KD.anyK t]
theorem KD.mapK {k : Key} {v : V} {d : PyData} (h : DV K H v d) : ∀ {es : List (Key × V)} {kvs : List (Key × PyData)}, KD K H es kvs → KD K H (es.map fun kv => if kv.1 = k then (kv.1, v) else kv) (kvs.map fun kv => if kv.1 = k then (kv.1, d) else kv)
  | _, _, .nil => .nil
  | _, _, .cons (k := k') h1 t => by
    rw [List.map_cons, List.map_cons]
    by_cases q : k' = k
    · rw [if_pos q, if_pos q]; exact .cons h (KD.mapK h t)
    · rw [if_neg q, if_neg q]; exact .cons h1 (KD.mapK h t)
theorem KD.snoc {k : Key} {v : V} {d : PyData} (h : DV K H v d) : ∀ {es : List (Key × V)} {kvs : List (Key × PyData)}, KD K H es kvs → KD K H (es ++ [(k, v)]) (kvs ++ [(k, d)])
  | _, _, .nil => .cons h .nil
  | _, _, .cons h1 t => .cons h1 (KD.snoc h t)
theorem KD.put {k : Key} {v : V} {d : PyData} (h : DV K H v d) {es : List (Key × V)} {kvs : List (Key × PyData)} (t : KD K H es kvs) : KD K H (putK es k v) (dPut kvs k d) := by
  unfold putK dPut
  rw [t.anyK]
  split
  · exact KD.mapK h t
  · exact KD.snoc h t
theorem KD.len : ∀ {es : List (Key × V)} {kvs : List (Key × PyData)}, KD K H es kvs → es.length = kvs.length
  | _, _, .nil => rfl
  | _, _, .cons _ t => by rw [List.length_cons, List.length_cons, KD.len t]
end
section
variable {X : Cx} {C : Ct} {e a b c o : Expr} {es : List Expr} {pos apos cpos pos' : Pos}
def mDGet (i : Nat) (mk : M PyData) : M PyData := mk.bind fun kd => fun ρ => match keyD kd, ρ[i]? with
  | some k, some (some (.od kvs)) => (match dGet kvs k with
    | some d => .ok d ρ
    | none => .bad)
  | _, _ => .bad
/-- the slot's value is there -/
def mHas {γ : Type} (i : Nat) (m : M γ) : M γ := fun ρ => match ρ[i]? with
  | some (some _) => m ρ
  | _ => .bad
theorem d_dget {i : Nat} {mk : M PyData} (hu : X.A.units + 1 < cLine) (ho : PE X o (tVar i)) (hi : PE X e (tD C mk)) (hs : NoSl e) : PE X (.Subscript o e pos) (tD C (mHas i (mDGet i mk))) :=
  (pe_dget hu ho hi hs).imp fun σ H Q ⟨F, ρ, sr, p⟩ => by
    unfold mHas at p
    split at p
    · rename_i oo eo
      obtain ⟨v, hv, _⟩ := sr.sl i _ eo
      refine ⟨v, hv, F, ρ, sr, p.part fun kd ρ1 F1 H1 y e1 q1 g1 s1 r1 => ?_⟩
      have q1 := q1.on stb_D g1
      split at q1
      · rename_i k kvs ek eo1
        split at q1
        · rename_i d ed
          obtain ⟨v', hv', a, es, rfl, k1, k2, k3⟩ := s1.sl i _ eo1
          rw [hv] at hv'; cases hv'
          obtain ⟨w, ew, dw⟩ := k3.get ed
          have ey := keyD_at r1 ek
          subst ey
          exact ⟨a, w, rfl, by rw [← ew]; exact DGet.k k2, q1 F1 H1 w Grow.refl s1 dw⟩
        · exact q1.elim
      · exact q1.elim
    · exact p.elim
/-! ## statements -/
inductive Out where
  | nx
  | rt (r : OD)
  | bk
  | ct
def Pres (σ σ' : St) (P : List Nat) : Prop := σ'.length = σ.length ∧ ∀ p, p ∈ P → σ'[p]? = σ[p]?
theorem Pres.refl {σ : St} {P : List Nat} : Pres σ σ P := ⟨rfl, fun _ _ => rfl⟩
theorem Pres.trans {σ σ1 σ2 : St} {P : List Nat} (a : Pres σ σ1 P) (b : Pres σ1 σ2 P) : Pres σ σ2 P := ⟨b.1.trans a.1, fun p h => (b.2 p h).trans (a.2 p h)⟩
def PostS (C : Ct) (P : List Nat) (σ : St) (ρ : Rho) (F H : Hp) (D : Ends) : Res Out → Prop
  | .ok .nx ρ' => ∀ F' H' σ', Grow (own σ ρ) (own σ' ρ') F H F' H' → SR C.K F' H' σ' ρ' → Pres σ σ' P → D.nx σ' H'
  | .ok (.rt r) ρ' => ∀ F' H' σ' v, Grow (own σ ρ) (own σ' ρ') F H F' H' → SR C.K F' H' σ' ρ' → Pres σ σ' P → OR C.K F' H' v r → (r.isO = true → ∀ a, v = .ref a → ¬ own σ' ρ' a ∧ (H a = none ∨ own σ ρ a)) → D.rt v H'
  | .ok .bk ρ' => ∀ F' H' σ', Grow (own σ ρ) (own σ' ρ') F H F' H' → SR C.K F' H' σ' ρ' → Pres σ σ' P → D.bk σ' H'
  | .ok .ct ρ' => ∀ F' H' σ', Grow (own σ ρ) (own σ' ρ') F H F' H' → SR C.K F' H' σ' ρ' → Pres σ σ' P → D.ct σ' H'
  | .ex x ρ' => ∀ F' H' σ' cls d, Grow (own σ ρ) (own σ' ρ') F H F' H' → SR C.K F' H' σ' ρ' → Pres σ σ' P → C.XR F' H' cls d x → C.W cls d σ' H'
  | .bad => False
def tS (C : Ct) (P : List Nat) (m : M Out) : TS := fun D σ H => ∃ F ρ, SR C.K F H σ ρ ∧ PostS C P σ ρ F H D (m ρ)
section
variable {P : List Nat} {σ σ1 : St} {ρ ρ1 : Rho} {F H F1 H1 : Hp} {D : Ends} {st : Stmt} {sts : List Stmt}
theorem PostS.on {x : Res Out} (h : PostS C P σ ρ F H D x) (g : Grow (own σ ρ) (own σ1 ρ1) F H F1 H1) (pr : Pres σ σ1 P) : PostS C P σ1 ρ1 F1 H1 D x := by
  cases x with
  | bad => exact h
  | ex x ρ' => exact fun F' H' σ' cls d g' s p r => h F' H' σ' cls d (g.trans g') s (pr.trans p) r
  | ok o ρ' =>
    cases o with
    | nx => exact fun F' H' σ' g' s p => h F' H' σ' (g.trans g') s (pr.trans p)
    | bk => exact fun F' H' σ' g' s p => h F' H' σ' (g.trans g') s (pr.trans p)
    | ct => exact fun F' H' σ' g' s p => h F' H' σ' (g.trans g') s (pr.trans p)
    | rt r => exact fun F' H' σ' v g' s p ro n => h F' H' σ' v (g.trans g') s (pr.trans p) ro fun io a e => ⟨(n io a e).1, by
        rcases (n io a e).2 with z | z
        · exact g.back z
        · rcases g.ows a z with y | y
          · exact .inr y
          · exact .inl y⟩
/-- an expression ahead of a statement's effect -/
theorem PostS.part {α β : Type} {RA : Hp → Hp → St → Rho → Rho → Hp → β → α → Prop} {R : β → Hp → Prop} {ma : M α} {f : α → M Out} (h : PostS C P σ ρ F H D (ma.bind f ρ))
    (k : ∀ a ρ' F' H' v, PostS C P σ ρ' F' H' D (f a ρ') → Grow (own σ ρ) (own σ ρ') F H F' H' → SR C.K F' H' σ ρ' → RA F' H' σ ρ' ρ H v a → R v H') : PostE C RA σ ρ F H R (ma ρ) := by
  unfold M.bind at h
  cases e : ma ρ with
  | ok a ρ' => rw [e] at h; exact fun F' H' v g s r => k a ρ' F' H' v (h.on g Pres.refl) g s r
  | ex x ρ' => rw [e] at h; exact fun F' H' cls d g s r => h F' H' σ cls d g s Pres.refl r
  | bad => rw [e] at h; exact h
theorem _root_.L2.PS.imp {t t' : TS} (h : PS X st t) (i : ∀ D σ H, t' D σ H → t D σ H) : PS X st t' := ⟨fun pins s σ H D I q => h.run pins s σ H D I (i _ _ _ q)⟩
theorem _root_.L2.PSs.imp {t t' : TS} (h : PSs X sts t) (i : ∀ D σ H, t' D σ H → t D σ H) : PSs X sts t' := ⟨fun pins s σ H D I q => h.run pins s σ H D I (i _ _ _ q)⟩
def sSeq (m n : M Out) : M Out := m.bind fun o => match o with
  | .nx => n
  | o => M.ret o
def sNext : M Out := M.ret .nx
theorem ss_nil : PSs X [] (tS C P sNext) := pss_nil.imp fun D σ H ⟨F, ρ, sr, p⟩ => p F H σ Grow.refl sr Pres.refl
theorem ss_cons {m n : M Out} (h1 : PS X st (tS C P m)) (h2 : PSs X sts (tS C P n)) : PSs X (st :: sts) (tS C P (sSeq m n)) :=
  (pss_cons h1 h2).imp fun D σ H ⟨F, ρ, sr, p⟩ => by
    refine ⟨F, ρ, sr, ?_⟩
    unfold sSeq M.bind at p
    cases e : m ρ with
    | bad => rw [e] at p; exact p
    | ex x ρ' => rw [e] at p; exact p
    | ok o ρ' =>
      rw [e] at p
      cases o with
      | nx => exact fun F' H' σ' g s pr => ⟨F', ρ', s, p.on g pr⟩
      | rt r => exact p
      | bk => exact p
      | ct => exact p
theorem ss_one {m : M Out} (h1 : PS X st (tS C P m)) : PSs X [st] (tS C P m) := (pss_one h1).imp fun D σ H q => q
def sExpr (m : M PyData) : M Out := m.bind fun _ => M.ret .nx
theorem s_expr {m : M PyData} (he : PE X e (tD C m)) (hs : swapsWith e none pos.line X.env = pure false := by rfl) : PS X (.Expr e pos) (tS C P (sExpr m)) :=
  (ps_expr he hs).imp fun D σ H ⟨F, ρ, sr, p⟩ => ⟨F, ρ, sr, p.part fun d ρ1 F1 H1 x q1 g1 s1 r1 => q1 F1 H1 σ Grow.refl s1 Pres.refl⟩
def sRet (m : M OD) : M Out := m.bind fun r => M.ret (.rt r)
theorem s_ret {m : M OD} (he : PE X e (tO C m)) : PS X (.Return (some e) pos) (tS C P (sRet m)) :=
  (ps_ret he).imp fun D σ H ⟨F, ρ, sr, p⟩ => by
    refine ⟨F, ρ, sr, ?_⟩
    unfold sRet M.bind at p
    cases e : m ρ with
    | bad => rw [e] at p; exact p
    | ex x ρ' => rw [e] at p; exact fun F' H' cls d g s r => p F' H' σ cls d g s Pres.refl r
    | ok r ρ' => rw [e] at p; exact fun F' H' v g s q => p F' H' σ v g s Pres.refl q.1 q.2
def sRetN : M Out := M.ret (.rt (.sh .none))
theorem s_retN : PS X (.Return none pos) (tS C P sRetN) := ps_retN.imp fun D σ H ⟨F, ρ, sr, p⟩ => p F H σ .non Grow.refl sr Pres.refl (.non) fun z => by cases z
def sIf (mt : M Bool) (ma mb : M Out) : M Out := mt.bind fun b => if b = true then ma else mb
theorem s_if {as bs : List Stmt} {mt : M Bool} {ma mb : M Out} (hc : PT X c (tT C mt)) (ha : PSs X as (tS C P ma)) (hb : PSs X bs (tS C P mb)) : PS X (.If c as bs pos) (tS C P (sIf mt ma mb)) :=
  (ps_if hc ha hb).imp fun D σ H ⟨F, ρ, sr, p⟩ => ⟨F, ρ, sr, p.part fun k ρ1 F1 H1 x q1 g1 s1 r1 => by
    subst r1
    cases x with
    | true => exact ⟨F1, ρ1, s1, q1⟩
    | false => exact ⟨F1, ρ1, s1, q1⟩⟩
theorem s_pass : PS X (.Pass pos) (tS C P sNext) := ps_pass.imp fun D σ H ⟨F, ρ, sr, p⟩ => p F H σ Grow.refl sr Pres.refl
theorem s_break : PS X (.Break pos) (tS C P (M.ret .bk)) := ps_break.imp fun D σ H ⟨F, ρ, sr, p⟩ => p F H σ Grow.refl sr Pres.refl
theorem s_cont : PS X (.Continue pos) (tS C P (M.ret .ct)) := ps_continue.imp fun D σ H ⟨F, ρ, sr, p⟩ => p F H σ Grow.refl sr Pres.refl
/-! a name is stored -/
theorem SR.store {K : PySem.W.Frag} {i : Nat} {v : V} {o : OD} (s : SR K F H σ ρ) (hi : i < σ.length) (h : OR K F H v o) (no : o.isO = true → ∀ a, v = .ref a → ¬ own σ ρ a) : SR K F H (σ.set i (some v)) (ρ.set i (some o)) := by
  have hr : i < ρ.length := by rw [s.len]; exact hi
  refine ⟨s.sub, by rw [List.length_set, List.length_set]; exact s.len, fun j u hj => ?_, fun j k u u' a ne h1 i1 h2 i2 h3 h4 => ?_⟩
  · by_cases e : i = j
    · subst e
      rw [List.getElem?_set_self hr] at hj; cases hj
      exact ⟨v, by rw [List.getElem?_set_self hi], h⟩
    · rw [List.getElem?_set_ne e] at hj
      obtain ⟨w, e1, e2⟩ := s.sl j u hj
      exact ⟨w, by rw [List.getElem?_set_ne e]; exact e1, e2⟩
  · by_cases ej : i = j
    · subst ej
      rw [List.getElem?_set_self hr] at h1; cases h1
      rw [List.getElem?_set_self hi] at h3
      rw [List.getElem?_set_ne ne] at h2 h4
      cases h3
      exact no i1 a rfl ⟨k, u', h2, i2, h4⟩
    · by_cases ek : i = k
      · subst ek
        rw [List.getElem?_set_self hr] at h2; cases h2
        rw [List.getElem?_set_self hi] at h4
        rw [List.getElem?_set_ne ej] at h1 h3
        cases h4
        exact no i2 a rfl ⟨j, u, h1, i1, h3⟩
      · rw [List.getElem?_set_ne ej] at h1 h3
        rw [List.getElem?_set_ne ek] at h2 h4
        exact s.sep j k u u' a ne h1 i1 h2 i2 h3 h4
theorem own.store {i : Nat} {v : V} {o : OD} {b : Addr} (hi : i < σ.length) (h : own (σ.set i (some v)) (ρ.set i (some o)) b) : own σ ρ b ∨ (o.isO = true ∧ v = .ref b) := by
  obtain ⟨j, u, e1, e2, e3⟩ := h
  by_cases e : i = j
  · subst e
    rw [List.getElem?_set_self hi] at e3; cases e3
    by_cases hr : i < ρ.length
    · rw [List.getElem?_set_self hr] at e1; cases e1; exact .inr ⟨e2, rfl⟩
    · rw [List.getElem?_eq_none (by rw [List.length_set]; omega)] at e1; cases e1
  · rw [List.getElem?_set_ne e] at e1 e3
    exact .inl ⟨j, u, e1, e2, e3⟩
/-- the state behind a store -/
theorem stored {i : Nat} {v : V} {o : OD} {ρ0 : Rho} {H0 F0 : Hp} (s : SR C.K F H σ ρ) (hi : i < σ.length) (hP : i ∉ P) (g : Grow (own σ ρ0) (own σ ρ) F0 H0 F H) (h : rO C.K F H σ ρ ρ0 H0 v o) :
    SR C.K F H (σ.set i (some v)) (ρ.set i (some o)) ∧ Grow (own σ ρ0) (own (σ.set i (some v)) (ρ.set i (some o))) F0 H0 F H ∧ Pres σ (σ.set i (some v)) P := by
  refine ⟨s.store hi h.1 fun io a e => (h.2 io a e).1, ⟨g.ext, g.keep, g.new, fun b hb => ?_⟩, by rw [List.length_set], fun p hp => List.getElem?_set_ne fun z => hP (by rw [z]; exact hp)⟩
  rcases own.store hi hb with z | ⟨z1, z2⟩
  · exact g.ows b z
  · rcases (h.2 z1 b z2).2 with y | y
    · exact .inr y
    · exact .inl y
def sSet (i : Nat) (m : M OD) : M Out := m.bind fun o => fun ρ => .ok .nx (ρ.set i (some o))
theorem PostS.set {i : Nat} {m : M OD} (h : PostS C P σ ρ F H D (sSet i m ρ)) (hi : i < σ.length) (hP : i ∉ P) : PostE C (rO C.K) σ ρ F H (fun v H' => D.nx (σ.set i (some v)) H') (m ρ) := by
  unfold sSet M.bind at h
  cases e : m ρ with
  | bad => rw [e] at h; exact h
  | ex x ρ' => rw [e] at h; exact fun F' H' cls d g s r => h F' H' σ cls d g s Pres.refl r
  | ok o ρ' =>
    rw [e] at h
    intro F' H' v g s r
    obtain ⟨a1, a2, a3⟩ := stored (P := P) s hi hP g r
    exact h F' H' _ a2 a1 a3
theorem s_set {i : Nat} {x : Str} {m : M OD} (hN : X.N.Nodup) (hi : X.N[i]? = some x) (hx : Loc X.env.scope x) (he : PE X e (tO C m)) (hP : i ∉ P := by decide) (hs : swapsWith e (some (.Name x pos')) pos.line X.env = pure false := by rfl) (hf : X.fn x = true ∨ X.env.scope.names.lookup x = some .local := by first | exact .inl rfl | exact .inr rfl | assumption) :
    PS X (.Assign [.Name x pos'] e pos) (tS C P (sSet i m)) := by
  refine ⟨fun pins s σ H D I ⟨F, ρ, sr, p⟩ => (ps_set hN hi hx he hs hf).run pins s σ H D I ⟨F, ρ, sr, ?_⟩⟩
  exact PostS.set p (by rw [I.len]; exact (List.getElem?_eq_some_iff.mp hi).1) hP
end
end
end Eg
namespace Eg
open PySem L2 PySem.W PySem.SeqAt
section
variable {X : Cx} {C : Ct} {e a b c o tg iter : Expr} {es : List Expr} {pos apos cpos pos' : Pos} {P : List Nat} {σ σ1 : St} {ρ ρ1 : Rho} {F H F1 H1 : Hp} {D : Ends} {body : List Stmt}
/-! ## what is walked -/
def WalkD (K : PySem.W.Frag) (F : Hp) (J : It) (xs : List PyData) : Prop := ∀ F2 H2 (i : Nat), Same F F2 → Same F2 H2 → (xs.length ≤ i → J.stop i H2) ∧ ∀ x, xs[i]? = some x → J.go i H2 ∧ ∀ v H3, J.yld i H2 v H3 → ∃ F3, Alloc K F2 H2 F3 H3 v (.sh x)
def tI (C : Ct) (m : M (List PyData)) : TI := fun σ H R => ∃ F ρ, SR C.K F H σ ρ ∧ PostE (β := It) C (fun F' _ _ _ _ _ J xs => WalkD C.K F' J xs) σ ρ F H R (m ρ)
theorem stb_I {K : PySem.W.Frag} : Stb (β := It) (fun F' _ _ _ _ _ J xs => WalkD K F' J xs) := fun _ _ _ _ _ _ _ _ _ _ _ _ _ r => r
def seqItems : PyData → M (List PyData)
  | .list ds => M.ret ds
  | .tuple ds => M.ret ds
  | _ => M.bad
/-- a list or a tuple, walked -/
theorem pi_seq {l : Expr} {tl : TE} (hl : PE X l tl) : PI X tg l (fun σ H R => tl σ H fun x H1 => ∃ a, x = .ref a ∧ (((∃ xs, SqL X.K H1 a xs) ∧ R (Itl X.K a) H1) ∨ ((∃ xs, SqT X.K H1 a xs) ∧ R (Itt X.K a) H1))) := by
  refine ⟨fun pins s σ H R I h => thn (hl.run pins s σ H _ I h) fun v s1 ⟨x, H1, I1, r1, a, ex, q⟩ => ?_⟩
  subst ex
  cases r1
  have fp : ∀ b ∈ [s1.heap.objs.size], FpOk X pins H1 b := fun b hb => by
    have eb : b = s1.heap.objs.size := by simpa using hb
    subst eb
    exact I1.fpOk (Nat.le_refl _) (I1.hok.fresh (Nat.le_refl _))
  rcases q with ⟨⟨xs, hq⟩, q⟩ | ⟨⟨xs, hq⟩, q⟩
  · obtain ⟨its, rv, pl, hz⟩ := I1.list hq
    exact wpAny_pyIter_list pl.isList ⟨_, [_], _, _, H1, rfl, I1.kept (t' := s1.toks) fun b o e => Heap.get?_push_of_some _ e, turn_list a _, ⟨_, Heap.get?_push_size _ rfl, rfl, rfl⟩, fp, q⟩
  · obtain ⟨its, rv, pl, hz⟩ := I1.tuple hq
    exact wpAny_pyIter_tuple (show s1.heap.IsTuple a its.toArray from pl) ⟨_, [_], _, _, H1, rfl, I1.kept (t' := s1.toks) fun b o e => Heap.get?_push_of_some _ e, turn_tuple a _, ⟨_, Heap.get?_push_size _ rfl, rfl, rfl⟩, fp, q⟩
theorem _root_.L2.PI.imp {t t' : TI} (h : PI X tg iter t) (i : ∀ σ H R, t' σ H R → t σ H R) : PI X tg iter t' := ⟨fun pins s σ H R I q => h.run pins s σ H R I (i _ _ _ q)⟩
theorem walk_list {K : PySem.W.Frag} {a : Addr} {vs : List V} {ds : List PyData} (h : F a = some (.lst vs)) (hd : DVs K F vs ds) : WalkD K F (Itl K a) ds := fun F2 H2 i s1 s2 => by
  have h2 : SqL K H2 a vs := SqL.of (s2 _ _ (s1 _ _ h))
  refine ⟨fun hl => ⟨vs, h2, by rw [hd.len]; exact hl⟩, fun x hx => ?_⟩
  obtain ⟨v, ev, dv⟩ := hd.get hx
  refine ⟨⟨vs, v, h2, ev⟩, fun w H3 y => ?_⟩
  obtain ⟨e1, y⟩ := y
  subst e1
  have := y vs h2
  rw [ev] at this; cases this
  exact ⟨F2, .asis (DV.mono s1 dv)⟩
theorem walk_tup {K : PySem.W.Frag} {a : Addr} {vs : List V} {ds : List PyData} (h : SqT K F a vs) (hd : DVs K F vs ds) : WalkD K F (Itt K a) ds := fun F2 H2 i s1 s2 => by
  have h2 : SqT K H2 a vs := s2.sqT (s1.sqT h)
  refine ⟨fun hl => ⟨vs, h2, by rw [hd.len]; exact hl⟩, fun x hx => ?_⟩
  obtain ⟨v, ev, dv⟩ := hd.get hx
  refine ⟨⟨vs, v, h2, ev⟩, fun w H3 y => ?_⟩
  obtain ⟨e1, y⟩ := y
  subst e1
  have := y vs h2
  rw [ev] at this; cases this
  exact ⟨F2, .asis (DV.mono s1 dv)⟩
theorem i_seq {m : M PyData} (h : PE X iter (tD C m)) (hK : X.K = C.K := by rfl) : PI X tg iter (tI C (m.bind seqItems)) :=
  (pi_seq h).imp fun σ H R ⟨F, ρ, sr, p⟩ => ⟨F, ρ, sr, p.part fun d ρ1 F1 H1 x e1 q1 g1 s1 r1 => by
    have q1 := q1.on stb_I g1
    rw [hK]
    cases r1 with
    | @lst a vs ds h1 h2 => exact ⟨a, rfl, .inl ⟨⟨vs, SqL.of (s1.sub _ _ h1)⟩, q1 F1 H1 _ Grow.refl s1 (walk_list h1 h2)⟩⟩
    | @tup a vs ds h1 h2 => exact ⟨a, rfl, .inr ⟨⟨vs, s1.sub.sqT h1⟩, q1 F1 H1 _ Grow.refl s1 (walk_tup h1 h2)⟩⟩
    | _ => exact q1.elim⟩
/-- a range -/
def rngD (lo : Int) (n : Nat) : List PyData := (List.range n).map fun (k : Nat) => .int (lo + (k : Int))
theorem walk_rng {K : PySem.W.Frag} {lo : Int} {n : Nat} : WalkD K F (Itr lo n) (rngD lo n) := fun F2 H2 i s1 s2 => by
  have hl : (rngD lo n).length = n := by simp [rngD]
  refine ⟨fun h => by rw [hl] at h; exact h, fun x hx => ?_⟩
  have hi : i < n := by
    have := (List.getElem?_eq_some_iff.mp hx).1
    rw [hl] at this; exact this
  refine ⟨hi, fun v H3 ⟨e1, e2⟩ => ?_⟩
  subst e1 e2
  have ex : x = .int (lo + (i : Int)) := by
    simp [rngD, hi] at hx
    exact hx.symm
  subst ex
  exact ⟨F2, .asis (.int _)⟩
def rng1 : List PyData → Option (List PyData)
  | [.int j] => if -(2 ^ 62) ≤ j ∧ j < 2 ^ 62 then some (rngD 0 j.toNat) else none
  | _ => none
def rng2 : List PyData → Option (List PyData)
  | [.int i, .int j] => if -(2 ^ 62) ≤ i ∧ i < 2 ^ 62 ∧ -(2 ^ 62) ≤ j ∧ j < 2 ^ 62 then some (rngD i (j - i).toNat) else none
  | _ => none
theorem many' {γ β : Type} {ms : M (List Arg)} {g : List PyData → Option γ} {RR : Hp → Hp → St → Rho → Rho → Hp → β → γ → Prop} {Q : β → Hp → Prop} {R : List V → Hp → Prop}
    (sr : SR C.K F H σ ρ) (st : Stb RR) (p : PostE C RR σ ρ F H Q (mL g ms ρ))
    (k : ∀ xs ds d ρ2 F2 H2, SR C.K F2 H2 σ ρ2 → Vws C.K F2 H2 xs ds → g ds = some d → PostE C RR σ ρ2 F2 H2 Q (.ok d ρ2) → R xs H2) : tL C ms σ H R :=
  ⟨F, ρ, sr, p.part fun as ρ1 F1 H1 xs e1 q1 g1 s1 r1 => by
    have q1 := q1.on st g1
    cases ex : resL ρ1 as with
    | none => simp only [M.bind, M.get, ex] at q1; exact q1.elim
    | some ds =>
      cases ed : g ds with
      | none => simp only [M.bind, M.get, ex, Option.bind_eq_bind, Option.bind_some, ed] at q1; exact q1.elim
      | some d =>
        simp only [M.bind, M.get, ex, Option.bind_eq_bind, Option.bind_some, ed] at q1
        exact k xs ds d ρ1 F1 H1 s1 (rAs.views s1 r1 ex) ed q1⟩
theorem i_range1 {p : Pos} {ms : M (List Arg)} (hg : Gl X "range") (hm : X.mg "range" = none) (ha : PA X [a] (tL C ms)) (hs : starEach [a] X.env = [(false, eval a X.env)] := by rfl) : PI X tg (.Call (.Name "range" p) [a] [] pos) (tI C (mL rng1 ms)) :=
  (pi_range1 hg hm ha hs).imp fun σ H R ⟨F, ρ, sr, q⟩ => many' sr stb_I q fun xs ds d ρ2 F2 H2 s2 vw e q => by
    match ds, vw, e with
    | [.int j], .cons h .nil, e =>
      simp only [rng1] at e
      split at e <;> cases e
      rename_i hz
      cases h
      exact ⟨j, rfl, hz.1, hz.2, q F2 H2 _ Grow.refl s2 walk_rng⟩
theorem i_range2 {p : Pos} {ms : M (List Arg)} (hg : Gl X "range") (hm : X.mg "range" = none) (ha : PA X [a, b] (tL C ms)) (hs : starEach [a, b] X.env = [(false, eval a X.env), (false, eval b X.env)] := by rfl) (hs2 : starEach [b] X.env = [(false, eval b X.env)] := by rfl) : PI X tg (.Call (.Name "range" p) [a, b] [] pos) (tI C (mL rng2 ms)) :=
  (pi_range2 hg hm ha hs hs2).imp fun σ H R ⟨F, ρ, sr, q⟩ => many' sr stb_I q fun xs ds d ρ2 F2 H2 s2 vw e q => by
    match ds, vw, e with
    | [.int i, .int j], .cons h (.cons h' .nil), e =>
      simp only [rng2] at e
      split at e <;> cases e
      rename_i hz
      cases h; cases h'
      exact ⟨i, j, rfl, hz, q F2 H2 _ Grow.refl s2 walk_rng⟩
/-- enumerate -/
def enumD : List PyData → Option (List PyData)
  | [.list ds] => some (ds.zipIdx.map fun p => .tuple [.int (p.2 : Nat), p.1])
  | _ => none
theorem walk_enum {K : PySem.W.Frag} {a : Addr} {vs : List V} {ds : List PyData} (h : F a = some (.lst vs)) (hd : DVs K F vs ds) : WalkD K F (Ite K a) (ds.zipIdx.map fun p => .tuple [.int (p.2 : Nat), p.1]) := fun F2 H2 i s1 s2 => by
  have h2 : SqL K H2 a vs := SqL.of (s2 _ _ (s1 _ _ h))
  refine ⟨fun hl => ⟨vs, h2, by rw [hd.len]; simpa using hl⟩, fun x hx => ?_⟩
  have hi : i < ds.length := by
    have := (List.getElem?_eq_some_iff.mp hx).1
    simpa using this
  have ex : x = .tuple [.int (i : Nat), ds[i]] := by
    rw [List.getElem?_map, List.getElem?_zipIdx] at hx
    simp [hi] at hx
    exact hx.symm
  subst ex
  obtain ⟨v, ev, dv⟩ := hd.get (show ds[i]? = some ds[i] by simp [hi])
  refine ⟨⟨vs, v, h2, ev⟩, fun w H3 ⟨T, x, e1, hT, e3, y⟩ => ?_⟩
  subst e1 e3
  have := y vs h2
  rw [ev] at this; cases this
  exact ⟨_, .tup hT (.cons (.int _) (.cons (DV.mono s1 dv) .nil))⟩
theorem i_enum {p tpos : Pos} {elts : List Expr} {kk : Nat} {m : M PyData} (hg : Gl X "enumerate") (hm : X.mg "enumerate" = none) (ha : PE X a (tD C m)) (hK : X.K = C.K := by rfl) (hs : starEach [a] X.env = [(false, eval a X.env)] := by rfl) :
    PI X (.Tuple elts kk tpos) (.Call (.Name "enumerate" p) [a] [] pos) (tI C (m.bind fun d => M.lift (enumD [d]))) :=
  (pi_enum hg hm (pa_cons ha pa_nil (by rw [hs]; rfl)) hs).imp fun σ H R ⟨F, ρ, sr, q⟩ => ⟨F, ρ, sr, q.part fun d ρ1 F1 H1 x e1 q1 g1 s1 r1 => by
    have q1 := q1.on stb_I g1
    rw [hK]
    cases r1 with
    | @lst a vs ds h1 h2 => exact ⟨a, vs, rfl, SqL.of (s1.sub _ _ h1), q1 F1 H1 _ Grow.refl s1 (walk_enum h1 h2)⟩
    | _ => exact q1.elim⟩
/-! ## targets -/
abbrev Tgt := PyData → Rho → Option Rho
def TgOk (C : Ct) (P : List Nat) (n : Nat) (g : TG) (t : Tgt) : Prop := ∀ (v : V) (d : PyData) (σ : St) (ρ ρ' : Rho) (F H : Hp) (Q : St → Hp → Prop), σ.length = n → SR C.K F H σ ρ → DV C.K F v d → t d ρ = some ρ' →
  (∀ σ', SR C.K F H σ' ρ' → (∀ b, own σ' ρ' b → own σ ρ b) → Pres σ σ' P → Q σ' H) → g v σ H Q
def tName (i : Nat) : Tgt := fun d ρ => some (ρ.set i (some (.sh d)))
theorem g_name {i n : Nat} (hi : i < n := by decide) (hP : i ∉ P := by decide) : TgOk C P n (gName i) (tName i) := fun v d σ ρ ρ' F H Q hn sr dv e q => by
  cases e
  have hi' : i < σ.length := by rw [hn]; exact hi
  refine q _ (sr.store (o := .sh d) hi' dv fun z => by cases z) (fun b hb => ?_) ⟨by rw [List.length_set], fun p hp => List.getElem?_set_ne fun z => hP (by rw [z]; exact hp)⟩
  rcases own.store hi' hb with z | ⟨z, _⟩
  · exact z
  · cases z
def tTup (ts : List Tgt) : Tgt := fun d ρ => match d with
  | .tuple ds => go ts ds ρ
  | _ => none
where go : List Tgt → List PyData → Rho → Option Rho
  | [], [], ρ => some ρ
  | t :: ts, d :: ds, ρ => (t d ρ).bind fun ρ' => go ts ds ρ'
  | _, _, _ => none
inductive TgsOk (C : Ct) (P : List Nat) (n : Nat) : TGs → List Tgt → Prop
  | nil : TgsOk C P n gNil []
  | cons {g : TG} {u : TGs} {t : Tgt} {ts : List Tgt} : TgOk C P n g t → TgsOk C P n u ts → TgsOk C P n (gCons g u) (t :: ts)
theorem tgs_run {n : Nat} : ∀ {u : TGs} {ts : List Tgt}, TgsOk C P n u ts → ∀ (vs : List V) (ds : List PyData) (σ : St) (ρ ρ' : Rho) (F H : Hp) (Q : St → Hp → Prop), σ.length = n → SR C.K F H σ ρ → DVs C.K F vs ds → tTup.go ts ds ρ = some ρ' →
    (∀ σ', SR C.K F H σ' ρ' → (∀ b, own σ' ρ' b → own σ ρ b) → Pres σ σ' P → Q σ' H) → u vs σ H Q
  | _, _, .nil, _, _, σ, ρ, ρ', F, H, Q, hn, sr, .nil, e, q => by cases e; exact ⟨rfl, q σ sr (fun _ h => h) Pres.refl⟩
  | _, _, .cons hg hu, _, _, σ, ρ, ρ', F, H, Q, hn, sr, .nil, e, q => by cases e
  | _, _, .nil, _, _, σ, ρ, ρ', F, H, Q, hn, sr, .cons _ _, e, q => by cases e
  | _, _, .cons (t := t) hg hu, _, _, σ, ρ, ρ', F, H, Q, hn, sr, .cons (v := v) (d := d) h1 h2, e, q => by
    simp only [tTup.go] at e
    cases e1 : t d ρ with
    | none => rw [e1] at e; cases e
    | some ρ1 =>
      rw [e1] at e
      refine ⟨v, _, rfl, hg v d σ ρ ρ1 F H _ hn sr h1 e1 fun σ1 s1 o1 p1 => ?_⟩
      exact tgs_run hu _ _ σ1 ρ1 ρ' F H Q (by rw [p1.1]; exact hn) s1 h2 e fun σ2 s2 o2 p2 => q σ2 s2 (fun b hb => o1 b (o2 b hb)) (p1.trans p2)
theorem g_tup {n k : Nat} {u : TGs} {ts : List Tgt} (h : TgsOk C P n u ts) (hk : ts.length = k := by rfl) : TgOk C P n (gTup C.K k u) (tTup ts) := fun v d σ ρ ρ' F H Q hn sr dv e q => by
  cases dv with
  | @tup a vs ds h1 h2 =>
    refine ⟨a, vs, rfl, sr.sub.sqT h1, ?_, tgs_run h vs ds σ ρ ρ' F H Q hn sr h2 e q⟩
    rw [h2.len, ← hk]
    have : ∀ (ts : List Tgt) (ds : List PyData) (ρ ρ' : Rho), tTup.go ts ds ρ = some ρ' → ds.length = ts.length := by
      intro ts
      induction ts with
      | nil => intro ds ρ ρ' h; cases ds with
        | nil => rfl
        | cons _ _ => cases h
      | cons t ts ih => intro ds ρ ρ' h; cases ds with
        | nil => cases h
        | cons d ds =>
          simp only [tTup.go] at h
          cases e1 : t d ρ with
          | none => rw [e1] at h; cases h
          | some ρ1 => rw [e1] at h; rw [List.length_cons, List.length_cons, ih ds ρ1 ρ' h]
    exact this ts ds ρ ρ' e
  | _ => cases e
/-! ## for -/
def sLoop (t : Tgt) (body : M Out) : List PyData → M Out
  | [] => M.ret .nx
  | x :: xs => fun ρ => match t x ρ with
    | none => .bad
    | some ρ1 => (body.bind fun o => match o with
      | .nx => sLoop t body xs
      | .ct => sLoop t body xs
      | .bk => M.ret .nx
      | .rt r => M.ret (.rt r)) ρ1
def sFor (src : M (List PyData)) (t : Tgt) (body : M Out) : M Out := src.bind fun xs => sLoop t body xs
theorem PostS.grow (h : PostS C P σ ρ F H D (.ok .nx ρ)) : True := trivial
theorem s_for {g : TG} {t : Tgt} {src : M (List PyData)} {mb : M Out} {n : Nat} (hp : PassesOwn (model X.prog X.w) X.A X.env X.xe) (hc : X.calm = true) (hi : PI X tg iter (tI C src)) (hg : PG X tg g) (ht : TgOk C P n g t) (hb : PSs X body (tS C P mb)) (hN : X.N.length = n := by rfl)
    (hs : ∀ x, foldedSetIterable iter X.env x = pure x := by intro _; rfl) : PS X (.For tg iter body [] pos) (tS C P (sFor src t mb)) := by
  refine ⟨fun pins s σ H D I ⟨F, ρ, sr, p⟩ => (ps_for hp hc hi hg hb hs).run pins s σ H D I ⟨F, ρ, sr, p.part fun xs ρ1 F1 H1 J q1 g1 s1 wk => ?_⟩⟩
  have ln : σ.length = n := by rw [I.len, hN]
  refine ⟨fun i m σ' H' => m = xs.length - i ∧ i ≤ xs.length ∧ ∃ F' ρ', Same F1 F' ∧ SR C.K F' H' σ' ρ' ∧ σ'.length = n ∧ PostS C P σ' ρ' F' H' D (sLoop t mb (xs.drop i) ρ'), ⟨xs.length, by simp, Nat.zero_le _, F1, ρ1, Same.refl _, s1, ln, by rw [List.drop_zero]; exact q1⟩, ?_⟩
  rintro i m σ' H' ⟨rfl, hil, F', ρ', sf, s', ln', q'⟩
  obtain ⟨w1, w2⟩ := wk F' H' i sf s'.sub
  by_cases hlt : i < xs.length
  · obtain ⟨x, ex⟩ : ∃ x, xs[i] = x := ⟨_, rfl⟩
    obtain ⟨go, yl⟩ := w2 x (by rw [← ex]; simp [hlt])
    rw [List.drop_eq_getElem_cons hlt, ex] at q'
    simp only [sLoop] at q'
    refine .inr ⟨go, fun σ2 H2 => i + 1 ≤ xs.length ∧ ∃ F2 ρ2, Same F1 F2 ∧ SR C.K F2 H2 σ2 ρ2 ∧ σ2.length = n ∧ PostS C P σ2 ρ2 F2 H2 D (sLoop t mb (xs.drop (i + 1)) ρ2), fun σ2 H2 h2 => ⟨xs.length - (i + 1), by omega, rfl, h2⟩, fun v H2 y => ?_⟩
    obtain ⟨F2, al⟩ := yl v H2 y
    cases et : t x ρ' with
    | none => simp only [et] at q'; exact q'.elim
    | some ρ2 =>
      simp only [et] at q'
      have st : SR C.K F2 H2 σ' ρ' ∧ Grow (own σ' ρ') (own σ' ρ') F' H' F2 H2 ∧ DV C.K F2 v x := by
        cases al with
        | asis h => exact ⟨s', Grow.refl, h⟩
        | tup hp h =>
          have fp := s'.sub.free hp
          exact ⟨s'.laid hp, Grow.laid hp fp, .tup (.inl (.inl upd_same)) (h.upd fp)⟩
      obtain ⟨s2, g2, dv⟩ := st
      refine ht v x σ' ρ' ρ2 F2 H2 _ ln' s2 dv et fun σ3 s3 o3 p3 => ?_
      have g3 : Grow (own σ' ρ') (own σ3 ρ2) F' H' F2 H2 := g2.less o3
      have q3 := q'.on g3 p3
      refine ⟨F2, ρ2, s3, ?_⟩
      have ln3 : σ3.length = n := by rw [p3.1]; exact ln'
      have sf2 : Same F1 F2 := sf.trans g2.ext
      simp only [M.bind] at q3
      cases eb : mb ρ2 with
      | bad => simp only [eb] at q3; exact q3
      | ex x ρ4 => simp only [eb] at q3; exact q3
      | ok oo ρ4 =>
        simp only [eb] at q3
        cases oo with
        | nx => exact fun F4 H4 σ4 g4 s4 p4 => ⟨by omega, F4, ρ4, sf2.trans g4.ext, s4, by rw [p4.1]; exact ln3, q3.on g4 p4⟩
        | ct => exact fun F4 H4 σ4 g4 s4 p4 => ⟨by omega, F4, ρ4, sf2.trans g4.ext, s4, by rw [p4.1]; exact ln3, q3.on g4 p4⟩
        | bk => exact fun F4 H4 σ4 g4 s4 p4 => q3 F4 H4 σ4 g4 s4 p4
        | rt r => exact q3
  · have ei : i = xs.length := by omega
    subst ei
    rw [List.drop_length] at q'
    exact .inl ⟨w1 (Nat.le_refl _), q' F' H' σ' Grow.refl s' Pres.refl⟩
/-! ## while -/
def sWhile (mt : M Bool) (body : M Out) : Nat → M Out
  | 0 => M.bad
  | n + 1 => mt.bind fun b => if b = true then (body.bind fun o => match o with
      | .nx => sWhile mt body n
      | .ct => sWhile mt body n
      | .bk => M.ret .nx
      | .rt r => M.ret (.rt r)) else M.ret .nx
theorem s_while {mt : M Bool} {mb : M Out} (n : Nat) (hp : PassesOwn (model X.prog X.w) X.A X.env X.xe) (hc : PT X c (tT C mt)) (hb : PSs X body (tS C P mb)) : PS X (.While c body [] pos) (tS C P (sWhile mt mb n)) :=
  (ps_while hp hc hb).imp fun D σ H ⟨F, ρ, sr, p⟩ => by
    refine ⟨fun m σ' H' => ∃ F' ρ', SR C.K F' H' σ' ρ' ∧ PostS C P σ' ρ' F' H' D (sWhile mt mb m ρ'), ⟨n, F, ρ, sr, p⟩, ?_⟩
    rintro m σ' H' ⟨F', ρ', s', q'⟩
    cases m with
    | zero => exact q'.elim
    | succ m =>
      simp only [sWhile] at q'
      refine ⟨F', ρ', s', q'.part fun k ρ1 F1 H1 x q1 g1 s1 r1 => ?_⟩
      subst r1
      cases x with
      | false => exact q1 F1 H1 σ' Grow.refl s1 Pres.refl
      | true =>
        refine ⟨fun σ2 H2 => ∃ F2 ρ2, SR C.K F2 H2 σ2 ρ2 ∧ PostS C P σ2 ρ2 F2 H2 D (sWhile mt mb m ρ2), fun σ2 H2 h2 => ⟨m, Nat.lt_succ_self _, h2⟩, F1, ρ1, s1, ?_⟩
        simp only [if_true, M.bind] at q1
        cases eb : mb ρ1 with
        | bad => simp only [eb] at q1; exact q1
        | ex x ρ4 => simp only [eb] at q1; exact q1
        | ok oo ρ4 =>
          simp only [eb] at q1
          cases oo with
          | nx => exact fun F4 H4 σ4 g4 s4 p4 => ⟨F4, ρ4, s4, q1.on g4 p4⟩
          | ct => exact fun F4 H4 σ4 g4 s4 p4 => ⟨F4, ρ4, s4, q1.on g4 p4⟩
          | bk => exact fun F4 H4 σ4 g4 s4 p4 => q1 F4 H4 σ4 g4 s4 p4
          | rt r => exact q1
/-! ## a, b = e -/
def sUn (m : M PyData) (t : Tgt) : M Out := m.bind fun d => fun ρ => match t d ρ with
  | some ρ' => .ok .nx ρ'
  | none => .bad
theorem s_un {g : TG} {t : Tgt} {m : M PyData} {n : Nat} (he : PE X e (tD C m)) (hg : PG X tg g) (ht : TgOk C P n g t) (hN : X.N.length = n := by rfl) (hs : swapsWithSole [tg] e pos.line X.env = pure false := by rfl) (hw : swappedStores [tg] e X.env = pure none := by rfl)
    (h1 : (assignEach [tg] X.env).map (·.2) = [assign tg X.env] := by rfl) : PS X (.Assign [tg] e pos) (tS C P (sUn m t)) := by
  refine ⟨fun pins s σ H D I ⟨F, ρ, sr, p⟩ => (ps_asg he hg hs hw h1).run pins s σ H D I ⟨F, ρ, sr, p.part fun d ρ1 F1 H1 x q1 g1 s1 r1 => ?_⟩⟩
  cases et : t d ρ1 with
  | none => simp only [et] at q1; exact q1.elim
  | some ρ2 =>
    simp only [et] at q1
    exact ht x d σ ρ1 ρ2 F1 H1 _ (by rw [I.len, hN]) s1 r1 et fun σ3 s3 o3 p3 => q1 F1 H1 σ3 (Grow.refl.less o3) s3 p3
end
end Eg
namespace Eg
open PySem L2 PySem.W PySem.SeqAt
/-! ## comprehensions -/
def wipeR (ρ : Rho) : List Nat → Rho
  | [] => ρ
  | v :: vs => (wipeR ρ vs).set v none
def restR (ρ0 ρ : Rho) : List Nat → Rho
  | [] => ρ
  | v :: vs => (restR ρ0 ρ vs).set v (ρ0[v]?.join)
theorem wipeR_len (ρ : Rho) : ∀ vs, (wipeR ρ vs).length = ρ.length
  | [] => rfl
  | v :: vs => by simp only [wipeR, List.length_set]; exact wipeR_len ρ vs
theorem restR_len (ρ0 ρ : Rho) : ∀ vs, (restR ρ0 ρ vs).length = ρ.length
  | [] => rfl
  | v :: vs => by simp only [restR, List.length_set]; exact restR_len ρ0 ρ vs
theorem wipeR_out {ρ : Rho} {j : Nat} : ∀ {vs : List Nat}, j ∉ vs → (wipeR ρ vs)[j]? = ρ[j]?
  | [], _ => rfl
  | v :: vs, h => by
    rw [List.mem_cons, not_or] at h
    simp only [wipeR]
    rw [List.getElem?_set_ne (fun z => h.1 z.symm)]
    exact wipeR_out h.2
theorem wipeR_in {ρ : Rho} {j : Nat} {o : OD} : ∀ {vs : List Nat}, j ∈ vs → (wipeR ρ vs)[j]? ≠ some (some o)
  | v :: vs, h, e => by
    simp only [wipeR] at e
    by_cases q : v = j
    · subst q
      by_cases hl : v < (wipeR ρ vs).length
      · rw [List.getElem?_set_self hl] at e; cases e
      · rw [List.getElem?_eq_none (by rw [List.length_set]; omega)] at e; cases e
    · rw [List.getElem?_set_ne q] at e
      rcases List.mem_cons.mp h with z | z
      · exact q z.symm
      · exact wipeR_in z e
theorem wipe_out {σ : St} {j : Nat} : ∀ {vs : List Nat}, j ∉ vs → (wipe σ vs)[j]? = σ[j]?
  | [], _ => rfl
  | v :: vs, h => by
    rw [List.mem_cons, not_or] at h
    simp only [wipe]
    rw [List.getElem?_set_ne (fun z => h.1 z.symm)]
    exact wipe_out h.2
theorem wipe_in {σ : St} {j : Nat} : ∀ {vs : List Nat}, j ∈ vs → (wipe σ vs)[j]? = if j < σ.length then some none else none
  | v :: vs, h => by
    simp only [wipe]
    by_cases q : v = j
    · subst q
      by_cases hl : v < σ.length
      · rw [if_pos hl, List.getElem?_set_self (by rw [wipe_length]; exact hl)]
      · rw [if_neg hl, List.getElem?_eq_none (by rw [List.length_set, wipe_length]; omega)]
    · rw [List.getElem?_set_ne q]
      rcases List.mem_cons.mp h with z | z
      · exact absurd z.symm q
      · exact wipe_in z
theorem wipe_ext {σ τ : St} {vs : List Nat} (hl : σ.length = τ.length) (h : ∀ j, j < τ.length → j ∉ vs → σ[j]? = τ[j]?) : wipe σ vs = wipe τ vs := by
  refine List.ext_getElem? fun j => ?_
  by_cases q : j ∈ vs
  · rw [wipe_in q, wipe_in q, hl]
  · rw [wipe_out q, wipe_out q]
    by_cases hj : j < τ.length
    · exact h j hj q
    · rw [List.getElem?_eq_none (by omega), List.getElem?_eq_none (by omega)]
theorem wipe_wipe (σ : St) (vs : List Nat) : wipe (wipe σ vs) vs = wipe σ vs := wipe_ext (wipe_length σ vs) fun j _ q => wipe_out q
theorem restR_out {ρ0 ρ : Rho} {j : Nat} : ∀ {vs : List Nat}, j ∉ vs → (restR ρ0 ρ vs)[j]? = ρ[j]?
  | [], _ => rfl
  | v :: vs, h => by
    rw [List.mem_cons, not_or] at h
    simp only [restR]
    rw [List.getElem?_set_ne (fun z => h.1 z.symm)]
    exact restR_out h.2
theorem restR_in {ρ0 ρ : Rho} {j : Nat} {o : OD} : ∀ {vs : List Nat}, j ∈ vs → (restR ρ0 ρ vs)[j]? = some (some o) → ρ0[j]? = some (some o)
  | v :: vs, h, e => by
    simp only [restR] at e
    by_cases q : v = j
    · subst q
      by_cases hl : v < (restR ρ0 ρ vs).length
      · rw [List.getElem?_set_self hl] at e
        have e := Option.some.inj e
        cases q2 : ρ0[v]? with
        | none => rw [q2] at e; cases e
        | some x => rw [q2] at e; exact congrArg some e
      · rw [List.getElem?_eq_none (by rw [List.length_set]; omega)] at e; cases e
    · rw [List.getElem?_set_ne q] at e
      rcases List.mem_cons.mp h with z | z
      · exact absurd z.symm q
      · exact restR_in z e
section
variable {K : PySem.W.Frag} {σ τ : St} {ρ ρ1 : Rho} {F H F1 H1 : Hp} {vs : List Nat}
theorem SR.wipes (s : SR K F H σ ρ) (vs : List Nat) : SR K F H (L2.wipe σ vs) (wipeR ρ vs) := by
  have go : ∀ {j : Nat} {o : OD}, (wipeR ρ vs)[j]? = some (some o) → ρ[j]? = some (some o) ∧ j ∉ vs := fun {j o} h => by
    by_cases q : j ∈ vs
    · exact absurd h (wipeR_in q)
    · exact ⟨by rw [← wipeR_out q]; exact h, q⟩
  refine ⟨s.sub, by rw [wipe_length, wipeR_len]; exact s.len, fun j o h => ?_, fun j k o o' a ne h1 i1 h2 i2 h3 h4 => ?_⟩
  · obtain ⟨h1, q⟩ := go h
    obtain ⟨v, e, r⟩ := s.sl j o h1
    exact ⟨v, by rw [wipe_out q]; exact e, r⟩
  · obtain ⟨g1, q1⟩ := go h1
    obtain ⟨g2, q2⟩ := go h2
    rw [wipe_out q1] at h3
    rw [wipe_out q2] at h4
    exact s.sep j k o o' a ne g1 i1 g2 i2 h3 h4
theorem own.wipes {b : Addr} (h : own (L2.wipe σ vs) (wipeR ρ vs) b) : own σ ρ b ∧ ∃ (i : Nat) (o : OD), i ∉ vs ∧ ρ[i]? = some (some o) ∧ o.isO = true ∧ σ[i]? = some (some (V.ref b)) := by
  obtain ⟨i, o, e1, e2, e3⟩ := h
  by_cases q : i ∈ vs
  · exact absurd e1 (wipeR_in q)
  · rw [wipeR_out q] at e1
    rw [wipe_out q] at e3
    exact ⟨⟨i, o, e1, e2, e3⟩, i, o, q, e1, e2, e3⟩
theorem Grow.wide {ow ow' ow1 : Addr → Prop} (g : Grow ow ow1 F H F1 H1) (h : ∀ b, ow b → ow' b) : Grow ow' ow1 F H F1 H1 :=
  ⟨g.ext, fun b o e n => g.keep b o e fun z => n (h b z), fun b z => (g.new b z).imp id fun z => z.imp id (h b), fun b z => (g.ows b z).imp (h b) id⟩
/-- the block is left: its own names' slots are as they were -/
theorem SR.rest (s : SR K F H σ ρ) (s1 : SR K F1 H1 (L2.wipe σ vs) (wipeR ρ1 vs)) (hl : ρ1.length = ρ.length) (g : Grow (own (L2.wipe σ vs) (wipeR ρ vs)) (own (L2.wipe σ vs) (wipeR ρ1 vs)) F H F1 H1) :
    SR K F1 H1 σ (restR ρ ρ1 vs) ∧ Grow (own σ ρ) (own σ (restR ρ ρ1 vs)) F H F1 H1 := by
  -- an owned thing of a wiped slot is owned by none of the others
  have lone : ∀ (j : Nat) (o : OD) (a : Addr), j ∈ vs → ρ[j]? = some (some o) → o.isO = true → σ[j]? = some (some (V.ref a)) → ¬ own (L2.wipe σ vs) (wipeR ρ vs) a := fun j o a hj e io ea z => by
    obtain ⟨_, i, o', q, e1, e2, e3⟩ := own.wipes z
    exact s.sep j i o o' a (fun w => q (w ▸ hj)) e io e1 e2 ea e3
  have old : ∀ (j : Nat) (o : OD), j ∈ vs → ρ[j]? = some (some o) → ∃ v, σ[j]? = some (some v) ∧ OR K F1 H1 v o := fun j o hj e => by
    obtain ⟨v, ev, r⟩ := s.sl j o e
    refine ⟨v, ev, r.keep g.ext fun a ha io => ?_⟩
    subst ha
    have nl := lone j o a hj e io ev
    obtain ⟨fa, u, hu⟩ := own.at s ⟨j, o, e, io, ev⟩
    refine ⟨?_, fun u' hu' => g.keep a u' hu' nl⟩
    cases q : F1 a with
    | none => rfl
    | some x =>
      rcases g.new a (by rw [q]; simp) with z | z | z
      · exact absurd fa z
      · rw [hu] at z; cases z
      · exact absurd z nl
  have cs : ∀ {j : Nat} {o : OD}, (restR ρ ρ1 vs)[j]? = some (some o) → (j ∈ vs ∧ ρ[j]? = some (some o)) ∨ (j ∉ vs ∧ (wipeR ρ1 vs)[j]? = some (some o)) := fun {j o} h => by
    by_cases q : j ∈ vs
    · exact .inl ⟨q, restR_in q h⟩
    · rw [restR_out q] at h
      exact .inr ⟨q, by rw [wipeR_out q]; exact h⟩
  have mix : ∀ (j k : Nat) (o o' : OD) (a : Addr), j ∈ vs → ρ[j]? = some (some o) → o.isO = true → k ∉ vs → (wipeR ρ1 vs)[k]? = some (some o') → o'.isO = true → σ[j]? = some (some (V.ref a)) → σ[k]? ≠ some (some (V.ref a)) := fun j k o o' a hj e io hk e' io' ea ek => by
    have z : own (L2.wipe σ vs) (wipeR ρ1 vs) a := ⟨k, o', e', io', by rw [wipe_out hk]; exact ek⟩
    obtain ⟨fa, u, hu⟩ := own.at s ⟨j, o, e, io, ea⟩
    rcases g.ows a z with y | y
    · exact lone j o a hj e io ea y
    · rw [hu] at y; cases y
  refine ⟨⟨s1.sub, by rw [restR_len, hl]; exact s.len, fun j o h => ?_, fun j k o o' a ne h1 i1 h2 i2 h3 h4 => ?_⟩, ⟨g.ext, fun b o e n => g.keep b o e fun z => n (own.wipes z).1, fun b z => (g.new b z).imp id fun z => z.imp id fun z => (own.wipes z).1, fun b ⟨i, o, e1, e2, e3⟩ => ?_⟩⟩
  · rcases cs h with ⟨q, e⟩ | ⟨q, e⟩
    · exact old j o q e
    · obtain ⟨v, ev, r⟩ := s1.sl j o e
      rw [wipe_out q] at ev
      exact ⟨v, ev, r⟩
  · rcases cs h1 with ⟨q1, e1⟩ | ⟨q1, e1⟩ <;> rcases cs h2 with ⟨q2, e2⟩ | ⟨q2, e2⟩
    · exact s.sep j k o o' a ne e1 i1 e2 i2 h3 h4
    · exact mix j k o o' a q1 e1 i1 q2 e2 i2 h3 h4
    · exact mix k j o' o a q2 e2 i2 q1 e1 i1 h4 h3
    · exact s1.sep j k o o' a ne e1 i1 e2 i2 (by rw [wipe_out q1]; exact h3) (by rw [wipe_out q2]; exact h4)
  · rcases cs e1 with ⟨q, e⟩ | ⟨q, e⟩
    · exact .inl ⟨i, o, e, e2, e3⟩
    · exact (g.ows b ⟨i, o, e, e2, by rw [wipe_out q]; exact e3⟩).imp (fun z => (own.wipes z).1) id
end
def lcGo (t : Tgt) (tests : M Bool) (elt : M PyData) (vs : List Nat) : List PyData → List PyData → M (List PyData)
  | [], acc => M.ret acc
  | x :: xs, acc => fun ρ => match t x (wipeR ρ vs) with
    | none => .bad
    | some ρ1 => match tests ρ1 with
      | .ok false ρ2 => lcGo t tests elt vs xs acc ρ2
      | .ok true ρ2 => (match elt ρ2 with
        | .ok d ρ3 => if acc.length < sizeLine then lcGo t tests elt vs xs (acc ++ [d]) ρ3 else .bad
        | _ => .bad)
      | _ => .bad
def mComp (src : M (List PyData)) (t : Tgt) (tests : M Bool) (elt : M PyData) (vs : List Nat) : M OD := src.bind fun xs => fun ρ => match lcGo t tests elt vs xs [] ρ with
  | .ok acc ρ' => if ρ'.length = ρ.length then .ok (.ol acc) (restR ρ ρ' vs) else .bad
  | _ => .bad
/-- what a block wants of exceptions: none -/
abbrev Ct.quiet (C : Ct) : Ct := ⟨C.K, fun _ _ _ _ => False, C.XR⟩
theorem quiet_ok {α β : Type} {C : Ct} {RR : Hp → Hp → St → Rho → Rho → Hp → β → α → Prop} {σ : St} {ρ : Rho} {F H : Hp} {Q : β → Hp → Prop} {x : Res α} (h : ∃ a ρ', x = .ok a ρ')
    (k : ∀ a ρ', x = .ok a ρ' → PostE C RR σ ρ F H Q (.ok a ρ')) : PostE C RR σ ρ F H Q x := by
  obtain ⟨a, ρ', e⟩ := h
  rw [e]
  exact k a ρ' e
section
variable {X : Cx} {C : Ct} {e elt tg iter : Expr} {ifs : List Expr} {pos : Pos}
theorem c_nil : PTs X ifs tYes → PTs X ifs (tT C (M.ret true)) := fun h => ⟨fun pins s σ H Q I ⟨F, ρ, sr, p⟩ => h.run pins s σ H Q I (p F H true Grow.refl sr rfl)⟩
theorem c_none : PTs X [] (tT C (M.ret true)) := c_nil pts_nil
theorem c_one {c : Expr} {m : M Bool} (h : PT X c (tT C m)) : PTs X [c] (tT C m) := pts_one h
/-- the slots that a block leaves alone -/
def outs (n : Nat) (vs : List Nat) : List Nat := (List.range n).filter fun i => !vs.contains i
theorem mem_outs {n j : Nat} {vs : List Nat} (h : j < n) (q : j ∉ vs) : j ∈ outs n vs := by
  unfold outs
  rw [List.mem_filter]
  exact ⟨List.mem_range.mpr h, by simpa using q⟩
theorem lc_read {g : TG} {t : Tgt} {src : M (List PyData)} {mt : M Bool} {me : M PyData} {vs : List Nat} {n : Nat} {σ : St} {H : Hp} {Q : VK} (hn : σ.length = n) (ht : TgOk C.quiet (outs n vs) n g t)
    (h : tO C (mComp src t mt me vs) σ H Q) : tLc (tI C src) g (tT C.quiet mt) (tD C.quiet me) vs σ H Q := by
  obtain ⟨F, ρ, sr, p⟩ := h
  refine ⟨F, ρ, sr, p.part fun xs ρ1 F1 H1 J e1 q1 g1 s1 wk => fun D hD => ?_⟩
  have q1 := q1.on stb_O g1
  -- the whole run
  obtain ⟨accF, ρF, eF, hlF⟩ : ∃ accF ρF, lcGo t mt me vs xs [] ρ1 = .ok accF ρF ∧ ρF.length = ρ1.length := by
    cases e : lcGo t mt me vs xs [] ρ1 with
    | ok a r =>
      simp only [e] at q1
      split at q1
      · rename_i hz; exact ⟨a, r, rfl, hz⟩
      · exact q1.elim
    | _ => simp only [e] at q1; exact q1.elim
  simp only [eF, hlF, if_true] at q1
  have f1D : F1 D = none := s1.sub.free hD
  have nD1 : ¬ own (wipe σ vs) (wipeR ρ1 vs) D := fun z => by
    obtain ⟨_, u, hu⟩ := own.at (s1.wipes vs) z
    rw [hD] at hu; cases hu
  have sD : SR C.K F1 (upd H1 D (.lst [])) (wipe σ vs) (wipeR ρ1 vs) := (s1.fresh hD).wipes vs
  refine ⟨fun i m H' => m = xs.length - i ∧ i ≤ xs.length ∧ ∃ F' ρ' acc accV, SR C.K F' H' (wipe σ vs) (wipeR ρ' vs) ∧ Grow (own (wipe σ vs) (wipeR ρ1 vs)) (own (wipe σ vs) (wipeR ρ' vs)) F1 H1 F' H' ∧
    ¬ own (wipe σ vs) (wipeR ρ' vs) D ∧ F' D = none ∧ H' D = some (.lst accV) ∧ DVs C.K F' accV acc ∧ lcGo t mt me vs (xs.drop i) acc ρ' = .ok accF ρF,
    ⟨xs.length, by simp, Nat.zero_le _, F1, ρ1, [], [], sD, Grow.fresh hD, nD1, f1D, upd_same, .nil, by rw [List.drop_zero]; exact eF⟩, ?_⟩
  rintro i m H' ⟨rfl, hil, F', ρ', acc, accV, s', gw, nD, fD, eD, dv, er⟩
  obtain ⟨w1, w2⟩ := wk F' H' i gw.ext s'.sub
  by_cases hlt : i < xs.length
  · obtain ⟨x, ex⟩ : ∃ x, xs[i] = x := ⟨_, rfl⟩
    obtain ⟨go, yl⟩ := w2 x (by rw [← ex]; simp [hlt])
    rw [List.drop_eq_getElem_cons hlt, ex] at er
    simp only [lcGo] at er
    refine .inr ⟨go, fun H2 => ∃ F' ρ' acc accV, SR C.K F' H2 (wipe σ vs) (wipeR ρ' vs) ∧ Grow (own (wipe σ vs) (wipeR ρ1 vs)) (own (wipe σ vs) (wipeR ρ' vs)) F1 H1 F' H2 ∧
      ¬ own (wipe σ vs) (wipeR ρ' vs) D ∧ F' D = none ∧ H2 D = some (.lst accV) ∧ DVs C.K F' accV acc ∧ lcGo t mt me vs (xs.drop (i + 1)) acc ρ' = .ok accF ρF, fun H2 h2 => ⟨xs.length - (i + 1), by omega, rfl, by omega, h2⟩, fun v H2 y => ?_⟩
    obtain ⟨F2, al⟩ := yl v H2 y
    cases et : t x (wipeR ρ' vs) with
    | none => simp only [et] at er; cases er
    | some ρ2 =>
      simp only [et] at er
      have st : SR C.K F2 H2 (wipe σ vs) (wipeR ρ' vs) ∧ Grow (own (wipe σ vs) (wipeR ρ' vs)) (own (wipe σ vs) (wipeR ρ' vs)) F' H' F2 H2 ∧ DV C.K F2 v x ∧ F2 D = none ∧ H2 D = some (.lst accV) := by
        cases al with
        | asis h => exact ⟨s', Grow.refl, h, fD, eD⟩
        | tup hp h =>
          have fp := s'.sub.free hp
          have ne := ne_of_none eD hp
          exact ⟨s'.laid hp, Grow.laid hp fp, .tup (.inl (.inl upd_same)) (h.upd fp), by rw [upd_ne ne]; exact fD, by rw [upd_ne ne]; exact eD⟩
      obtain ⟨s2, g2, dx, fD2, eD2⟩ := st
      refine ht v x (wipe σ vs) (wipeR ρ' vs) ρ2 F2 H2 _ (by rw [wipe_length]; exact hn) s2 dx et fun σ3 s3 o3 p3 => ?_
      have ew : wipe σ3 vs = wipe σ vs := by
        rw [← wipe_wipe σ vs]
        exact wipe_ext p3.1 fun j hj q => p3.2 j (mem_outs (by rw [wipe_length, hn] at hj; exact hj) q)
      have g3 : Grow (own (wipe σ vs) (wipeR ρ' vs)) (own σ3 ρ2) F' H' F2 H2 := g2.less o3
      have nD3 : ¬ own σ3 ρ2 D := fun z => nD (o3 D z)
      refine ⟨ew, F2, ρ2, s3, ?_⟩
      -- behind the tests
      cases emt : mt ρ2 with
      | bad => simp only [emt] at er; cases er
      | ex x r => simp only [emt] at er; cases er
      | ok k ρ3 =>
        simp only [emt] at er
        intro F3 H3 k' g4 s4 ek
        subst ek
        have nD4 : ¬ own σ3 ρ3 D := fun z => (g4.ows D z).elim nD3 fun y => by rw [eD2] at y; cases y
        have fD4 : F3 D = none := by
          cases q : F3 D with
          | none => rfl
          | some u =>
            rcases g4.new D (by rw [q]; simp) with z | z | z
            · exact absurd fD2 z
            · rw [eD2] at z; cases z
            · exact absurd z nD3
        have eD4 : H3 D = some (.lst accV) := g4.keep D _ eD2 nD3
        have back : ∀ {F5 H5 : Hp} {ρ5 : Rho}, SR C.K F5 H5 σ3 ρ5 → SR C.K F5 H5 (wipe σ vs) (wipeR ρ5 vs) := fun {F5 H5 ρ5} s => by
          have := s.wipes vs
          rw [ew] at this
          exact this
        have lessW : ∀ {ρ5 : Rho} {b : Addr}, own (wipe σ vs) (wipeR ρ5 vs) b → own σ3 ρ5 b := fun {ρ5 b} z => by
          rw [← ew] at z
          exact (own.wipes z).1
        cases k' with
        | false =>
          simp only at er
          rw [if_neg Bool.false_ne_true]
          exact ⟨F3, ρ3, acc, accV, back s4, (gw.trans (g3.trans g4)).less fun b z => lessW z, fun z => nD4 (lessW z), fD4, eD4, DVs.mono (g3.trans g4).ext dv, er⟩
        | true =>
          simp only at er
          rw [if_pos rfl]
          refine ⟨F3, ρ3, s4, ?_⟩
          cases eme : me ρ3 with
          | bad => simp only [eme] at er; cases er
          | ex x r => simp only [eme] at er; cases er
          | ok d ρ5 =>
            simp only [eme] at er
            split at er
            · rename_i hz
              intro F5 H5 y5 g5 s5 r5
              have nD5 : ¬ own σ3 ρ5 D := fun z => (g5.ows D z).elim nD4 fun y => by rw [eD4] at y; cases y
              have fD5 : F5 D = none := by
                cases q : F5 D with
                | none => rfl
                | some u =>
                  rcases g5.new D (by rw [q]; simp) with z | z | z
                  · exact absurd fD4 z
                  · rw [eD4] at z; cases z
                  · exact absurd z nD4
              have eD5 : H5 D = some (.lst accV) := g5.keep D _ eD4 nD4
              have gl := g3.trans (g4.trans g5)
              have s6 : SR C.K F5 (upd H5 D (.lst (accV ++ [y5]))) σ3 ρ5 := s5.on (Same.refl _) (fun b u q => by rw [upd_ne (ne_of_none q fD5)]; exact s5.sub b u q) fun a ha => by
                obtain ⟨fa, u, hu⟩ := own.at s5 ha
                exact ⟨fa, fun u' q => by rw [upd_ne (fun z => nD5 (by rw [← z]; exact ha))]; exact q⟩
              refine ⟨accV, eD5, by rw [dv.len]; exact hz, F5, ρ5, acc ++ [d], accV ++ [y5], back s6, ?_, fun z => nD5 (lessW z), fD5, upd_same, (DVs.mono gl.ext dv).append (.cons r5 .nil), er⟩
              have gall := gw.trans gl
              refine ⟨gall.ext, fun b o q n => ?_, gall.new, fun b z => gall.ows b (lessW z)⟩
              rw [upd_ne (ne_of_none q hD)]
              exact gall.keep b o q n
            · cases er
  · have ei : i = xs.length := by omega
    subst ei
    rw [List.drop_length] at er
    simp only [lcGo, M.ret] at er
    cases er
    obtain ⟨sf, gf⟩ := s1.rest s' hlF gw
    refine .inl ⟨w1 (Nat.le_refl _), q1 F' H' (.ref D) gf sf ⟨⟨D, accV, rfl, fD, eD, dv⟩, fun _ a ea => ?_⟩⟩
    cases ea
    refine ⟨fun z => ?_, .inl hD⟩
    rcases gf.ows D z with y | y
    · obtain ⟨_, u, hu⟩ := own.at s1 y
      rw [hD] at hu; cases hu
    · -- new and a slot's own: then one of the block's, which none is
      obtain ⟨j, o, e1, e2, e3⟩ := z
      by_cases q : j ∈ vs
      · obtain ⟨_, u, hu⟩ := own.at s1 ⟨j, o, restR_in q e1, e2, e3⟩
        rw [hD] at hu; cases hu
      · rw [restR_out q] at e1
        exact nD ⟨j, o, by rw [wipeR_out q]; exact e1, e2, by rw [wipe_out q]; exact e3⟩
theorem o_comp {g : TG} {t : Tgt} {src : M (List PyData)} {mt : M Bool} {me : M PyData} {n : Nat} {scope : Scope} {own : List (Str × Nat)} (hc : X.calm = true) (hN : X.N.Nodup) (hi : PI X tg iter (tI C src)) (ok : BlkOk X.N X.env.scope scope own)
    (hg : ∀ (s : Shared) (H : Hp) (D : Addr) (cl : List (Str × Addr)) (fp : List Addr), PG (X.blk s H scope (compEnvC scope cl D X.env) fp) tg g) (htg : TgOk C.quiet (outs n (own.map (·.2))) n g t)
    (ht : ∀ (s : Shared) (H : Hp) (D : Addr) (cl : List (Str × Addr)) (fp : List Addr), PTs (X.blk s H scope (compEnvC scope cl D X.env) fp) ifs (tT C.quiet mt))
    (he : ∀ (s : Shared) (H : Hp) (D : Addr) (cl : List (Str × Addr)) (fp : List Addr), PE (X.blk s H scope (compEnvC scope cl D X.env) fp) elt (tD C.quiet me)) (hL : X.N.length = n := by rfl) (hs : ∀ x, foldedSetIterable iter X.env x = pure x := by intro _; rfl) :
    PE X (.ListComp elt [⟨tg, iter, ifs, 0⟩] scope pos) (tO C (mComp src t mt me (own.map (·.2)))) :=
  ⟨fun pins s σ H Q I q => (pe_lc hc hN hi ok hg ht he hs).run pins s σ H Q I (lc_read (by rw [I.len, hL]) htg q)⟩
end
end Eg
namespace Eg
open PySem L2 PySem.W PySem.SeqAt
open PyProof.Rows (envOfC)
/-! ## defs, called while nothing is being written out -/
structure FnG (P : Program) (w : World) (K : PySem.W.Frag) (mg : Str → Option Value) (base : Heap) (CX : CXT) (k : Nat) (f : Addr) (fd : FuncData) (ps : List Str) (sp : Sp) : Prop where
  len : ∀ vs H Q E, sp vs H Q E → ps.length = vs.length
  run : ∀ (A : Around) (outer : List Env) (s : Shared) (H : Hp) (args : Args) (us : List Value) (vs : List V) (Q : VK) (E : XK), A.guards = some [] → Room k A → Env0 P w K mg base A outer s H → BindsTo s fd args (ps.zip us) → Vals vs us →
    sp vs H Q E → codeAny (model P w) A (.call (.ref f) args) (CR CX outer P w H s Q E) s
section
variable {P : Program} {w : World} {K : PySem.W.Frag} {mg : Str → Option Value} {base : Heap} {CX : CXT} {k : Nat}
theorem FnG.mono {j : Nat} {f : Addr} {fd : FuncData} {ps : List Str} {sp : Sp} (F : FnG P w K mg base CX j f fd ps sp) (h : j ≤ k) : FnG P w K mg base CX k f fd ps sp :=
  ⟨F.len, fun A outer s H args us vs Q E g r => F.run A outer s H args us vs Q E g (r.mono h)⟩
theorem deeper_guards (A : Around) (env : Env) : (A.deeper env).guards = A.guards := rfl
theorem fnG_of {x qual : Str} {st : Stmt} {f : Addr} {fd : FuncData} {N ps : List Str} {sp : Sp} (F : Fun K x qual st f fd) (S : FnScope N ps (defScope st)) (hlen : ∀ vs H Q E, sp vs H Q E → ps.length = vs.length)
    (hb : ∀ (cdv : Value) (A : Around) (outer : List Env) (s : Shared) (H : Hp) (vs : List V) (Q : VK) (E : XK), A.guards = some [] → Room k (A.deeper (envOfC qual (defScope st) s.heap.objs.size f cdv)) → sp vs H Q E →
      ∃ t, PSs (cxOf CX P w K mg base N qual (defScope st) f cdv A outer s H E) (defBody st) t ∧ t { nx := fun _ H' => Q .non H', rt := Q } (start N vs) H) : FnG P w K mg base CX (k + 1) f fd ps sp := by
  obtain ⟨oc, od, kV, doc, pm, an, cdv, ct, osl, rfl, lk, hcd⟩ := F.ex
  refine ⟨hlen, fun A outer s H args us vs Q E hg hr e0 bd rv h => ?_⟩
  have hl := (hlen vs H Q E h).symm
  have inK : K.In s.heap := e0.mod.kin.keeps fun b o e => (e0.bs b o e).1
  have par : ∀ y ∈ ps.zip us, (defScope st).names.lookup y.1 = some .local ∨ ((defScope st).names.lookup y.1 = some .cell ∧ ((cellsFrom (s.heap.objs.size + 1) (defScope st).names []).lookup y.1).isSome = true) := fun y hy =>
    (S.par y.1 (List.of_mem_zip (a := y.1) (b := y.2) hy).1).imp id fun q => ⟨q, PySem.W.cellsFrom_some _ _ _ (.inl q)⟩
  refine codeAny_call_function hr.depth (inK _ _ lk) rfl S.co S.gen rfl (PySem.W.codeRec_of inK hcd) (bd _ _ _ _ (wpAny_newFunctionEnv_cells S.kind par fun env he s1 x => ?_))
  subst he
  refine ⟨(e0.mod.nolimit.keeps fun b o e => (e0.bs b o e).1).keeps x.toInCall.keep, codeAny_func ?_⟩
  obtain ⟨t, ht, hq⟩ := hb cdv A outer s H vs Q E hg (hr.deeper _) h
  have I : Inv (cxOf CX P w K mg base N qual (defScope st) f cdv A outer s H E) [] (start N vs) H s1 := inv_start S hr.hd e0 hl rv x
  refine wpAny_mono (ht.run [] s1 _ H _ I hq) (fun fl s' q => ?_) fun _ _ q => q
  match fl, q with
  | .ret u, ⟨v, σ', H', J, r, q⟩ => exact ⟨v, H', J.os, J.bare, J.base, J.hok, r, q⟩
  | .next, ⟨σ', H', J, q⟩ => exact ⟨.non, H', J.os, J.bare, J.base, J.hok, rfl, q⟩
  | .brk, ⟨_, _, _, q⟩ => exact q.elim
  | .cont, ⟨_, _, _, q⟩ => exact q.elim
end
section
variable {X : Cx} {C : Ct} {e a b : Expr} {es : List Expr} {pos p : Pos} {CX : CXT} {k : Nat} {f : Addr} {fd : FuncData} {ps : List Str} {sp : Sp} {x : Str}
theorem run_G {pins : List (Addr × Obj)} {σ : St} {H : Hp} {s : Shared} {Q : VK} {us : List Value} {vs : List V} {ds : List Value} {E : XK} (F : FnG X.prog X.w X.K X.mg X.base CX k f fd ps sp) (hg : X.A.guards = some []) (hr : Room k X.A) (hb : Binds X.K fd ps ds) (hx : PassesAt CX X σ E)
    (I : Inv X pins σ H s) (r : Vals vs (us ++ ds)) (h : sp vs H Q E) : wpAny (model X.prog X.w) X.A (call (.ref f) us) (EP X pins σ Q) X.xe s := by
  have hl : (us ++ ds).length = ps.length := by rw [← r.length]; exact (F.len _ _ _ _ h).symm
  refine wpAny_call (codeAny_mono (F.run X.A X.stack s H ⟨us, []⟩ (us ++ ds) vs Q E hg hr I.env0 (hb s us I.kIn hl) r h) fun res s' q => ?_)
  match res, q with
  | .error e, q => exact hx pins H s e s' I q
  | .ok (.ret u), q => exact I.after q
/-! ## a def's meaning: its arguments' slots in, the thing told and the slots it may change out -/
abbrev Fn := M OD
/-- a def's promise: m on its arguments -/
def spI (K : PySem.W.Frag) (XR : Hp → Hp → Value → Option Addr → Xc → Prop) (n : Nat) (m : Fn) : Sp := fun vs H Q E => vs.length = n ∧ ∃ (F : Hp) (os : List OD), SR K F H (vs.map some) (os.map some) ∧ PostE ⟨K, fun cls d _ H' => E cls d H', XR⟩ (rO K) (vs.map some) (os.map some) F H Q (m (os.map some))
/-- the slots that a def may change stay, the others are not told of -/
def keepIo (io : List Bool) (ρ : Rho) : Rho := List.zipWith (fun b o => if b = true then o else none) io ρ
def fnM (n : Nat) (io : List Bool) (body : M Out) : Fn := fun ρ => match body (ρ ++ List.replicate n none) with
  | .ok (.rt r) ρ' => .ok r (keepIo io ρ')
  | .ok .nx ρ' => .ok (.sh .none) (keepIo io ρ')
  | .ex x ρ' => .ex x (keepIo io ρ')
  | _ => .bad
def ioIx (io : List Bool) : List Nat := (List.range io.length).filter fun i => io.getD i false
theorem keepIo_at {io : List Bool} {ρ : Rho} {j : Nat} {o : OD} (h : (keepIo io ρ)[j]? = some (some o)) : ρ[j]? = some (some o) ∧ j ∈ ioIx io ∧ j < io.length := by
  unfold keepIo at h
  rw [List.getElem?_zipWith] at h
  cases e1 : io[j]? with
  | none => rw [e1] at h; cases h
  | some b =>
    cases e2 : ρ[j]? with
    | none => rw [e1, e2] at h; cases h
    | some x =>
      rw [e1, e2] at h
      cases b with
      | false => cases h
      | true =>
        have hl : j < io.length := (List.getElem?_eq_some_iff.mp e1).1
        refine ⟨by simpa using h, ?_, hl⟩
        unfold ioIx
        rw [List.mem_filter]
        exact ⟨List.mem_range.mpr hl, by simp [List.getD, e1]⟩
theorem SR.start {K : PySem.W.Frag} {F H : Hp} {vs : List V} {os : List OD} (s : SR K F H (vs.map some) (os.map some)) (m : Nat) : SR K F H (vs.map some ++ List.replicate m none) (os.map some ++ List.replicate m none) ∧
    ∀ b, own (vs.map some ++ List.replicate m none) (os.map some ++ List.replicate m none) b → own (vs.map some) (os.map some) b := by
  have hl : os.length = vs.length := by have := s.len; simpa using this
  have lo : ∀ {j : Nat} {o : OD}, (os.map some ++ List.replicate m (none : Option OD))[j]? = some (some o) → j < os.length ∧ (os.map some)[j]? = some (some o) := fun {j o} h => by
    by_cases q : j < os.length
    · rw [List.getElem?_append_left (by simpa using q)] at h; exact ⟨q, h⟩
    · rw [List.getElem?_append_right (by simpa using Nat.le_of_not_lt q)] at h
      rw [List.getElem?_replicate] at h
      split at h <;> cases h
  have ro : ∀ {j : Nat}, j < os.length → (vs.map some ++ List.replicate m (none : Option V))[j]? = (vs.map some)[j]? := fun {j} q => List.getElem?_append_left (by simpa [← hl] using q)
  refine ⟨⟨s.sub, by simp [hl], fun j o h => ?_, fun j k o o' a ne h1 i1 h2 i2 h3 h4 => ?_⟩, fun b ⟨j, o, e1, e2, e3⟩ => ?_⟩
  · obtain ⟨q, e⟩ := lo h
    rw [ro q]
    exact s.sl j o e
  · obtain ⟨q1, e1⟩ := lo h1
    obtain ⟨q2, e2⟩ := lo h2
    rw [ro q1] at h3
    rw [ro q2] at h4
    exact s.sep j k o o' a ne e1 i1 e2 i2 h3 h4
  · obtain ⟨q, e⟩ := lo e1
    rw [ro q] at e3
    exact ⟨j, o, e, e2, e3⟩
/-- a def's end: its frame is gone, the slots that it may change are told of -/
theorem SR.finish {K : PySem.W.Frag} {F H F' H' : Hp} {vs : List V} {os : List OD} {m : Nat} {io : List Bool} {σ' : St} {ρ' : Rho} (hn : vs.length = io.length) (s : SR K F H (vs.map some) (os.map some)) (s' : SR K F' H' σ' ρ')
    (g : Grow (own (vs.map some ++ List.replicate m none) (os.map some ++ List.replicate m none)) (own σ' ρ') F H F' H') (pr : Pres (vs.map some ++ List.replicate m none) σ' (ioIx io)) :
    SR K F' H' (vs.map some) (keepIo io ρ') ∧ Grow (own (vs.map some) (os.map some)) (own (vs.map some) (keepIo io ρ')) F H F' H' ∧ ∀ b, own (vs.map some) (keepIo io ρ') b → own σ' ρ' b := by
  have at' : ∀ {j : Nat}, j ∈ ioIx io → σ'[j]? = (vs.map some)[j]? := fun {j} h => by
    rw [pr.2 j h]
    have : j < io.length := List.mem_range.mp (List.mem_filter.mp h).1
    exact List.getElem?_append_left (by simpa [hn] using this)
  have ow : ∀ b, own (vs.map some) (keepIo io ρ') b → own σ' ρ' b := fun b ⟨j, o, e1, e2, e3⟩ => by
    obtain ⟨k1, k2, _⟩ := keepIo_at e1
    exact ⟨j, o, k1, e2, by rw [at' k2]; exact e3⟩
  have hlen : σ'.length = vs.length + m := by rw [pr.1]; simp
  refine ⟨⟨s'.sub, ?_, fun j o h => ?_, fun j k o o' a ne h1 i1 h2 i2 h3 h4 => ?_⟩, ((g.wide (s.start m).2).less ow), ow⟩
  · unfold keepIo
    rw [List.length_zipWith, s'.len, hlen, List.length_map, hn]
    omega
  · obtain ⟨k1, k2, _⟩ := keepIo_at h
    obtain ⟨v, e, r⟩ := s'.sl j o k1
    exact ⟨v, by rw [← at' k2]; exact e, r⟩
  · obtain ⟨k1, k2, _⟩ := keepIo_at h1
    obtain ⟨l1, l2, _⟩ := keepIo_at h2
    exact s'.sep j k o o' a ne k1 i1 l1 i2 (by rw [at' k2]; exact h3) (by rw [at' l2]; exact h4)
section
variable {P : Program} {w : World} {K : PySem.W.Frag} {mg : Str → Option Value} {base : Heap} {k : Nat} {XR : Hp → Hp → Value → Option Addr → Xc → Prop}
/-- THE RULE for a def -/
theorem okI {x qual : Str} {st : Stmt} {f : Addr} {fd : FuncData} {N ps : List Str} {body : M Out} (io : List Bool) (F : Fun K x qual st f fd) (S : FnScope N ps (defScope st)) (hps : ps.length = io.length) (hN : io.length ≤ N.length)
    (hb : ∀ (cdv : Value) (A : Around) (outer : List Env) (s : Shared) (H : Hp) (E : XK), A.guards = some [] → Room k (A.deeper (envOfC qual (defScope st) s.heap.objs.size f cdv)) →
      PSs (cxOf (L2.CX P w) P w K mg base N qual (defScope st) f cdv A outer s H E) (defBody st) (tS ⟨K, fun cls d _ H' => E cls d H', XR⟩ (ioIx io) body)) :
    FnG P w K mg base (L2.CX P w) (k + 1) f fd ps (spI K XR io.length (fnM (N.length - io.length) io body)) := by
  refine fnG_of F S (fun vs H Q E h => (h.1.trans hps.symm).symm) fun cdv A outer s H vs Q E hg hr h => ⟨_, hb cdv A outer s H E hg hr, ?_⟩
  obtain ⟨hn, F0, os, sr, p⟩ := h
  have est : L2.start N vs = vs.map some ++ List.replicate (N.length - io.length) none := by unfold L2.start; rw [hn]
  have s0 := sr.start (N.length - io.length)
  rw [est]
  refine ⟨F0, os.map some ++ List.replicate (N.length - io.length) none, s0.1, ?_⟩
  unfold fnM at p
  cases e : body (os.map some ++ List.replicate (N.length - io.length) none) with
  | bad => rw [e] at p; exact p
  | ex x ρ' =>
    rw [e] at p
    intro F' H' σ' cls d g s' pr xr
    obtain ⟨a1, a2, a3⟩ := sr.finish hn s' g pr
    exact p F' H' cls d a2 a1 xr
  | ok o ρ' =>
    rw [e] at p
    cases o with
    | nx =>
      intro F' H' σ' g s' pr
      obtain ⟨a1, a2, a3⟩ := sr.finish hn s' g pr
      exact p F' H' .non a2 a1 ⟨.non, fun z => by cases z⟩
    | rt r =>
      intro F' H' σ' v g s' pr ro nn
      obtain ⟨a1, a2, a3⟩ := sr.finish hn s' g pr
      exact p F' H' v a2 a1 ⟨ro, fun io a ea => ⟨fun z => (nn io a ea).1 (a3 a z), (nn io a ea).2.imp id (s0.2 a)⟩⟩
    | bk => exact p.elim
    | ct => exact p.elim
end
/-! ## calls of defs -/
def argO (ρ : Rho) : Arg → Option OD
  | .dat d => some (.sh d)
  | .slot i => (ρ[i]?).join
/-- an argument that nobody owns -/
def argS (ρ : Rho) (a : Arg) : Option OD := match argO ρ a with
  | some (.sh d) => some (.sh d)
  | some (.sc ns) => some (.sc ns)
  | _ => none
def argsS (ρ : Rho) : List Arg → Option (List OD)
  | [] => some []
  | a :: as => do (← argS ρ a) :: (← argsS ρ as)
theorem argO_at {K : PySem.W.Frag} {F H : Hp} {σ : St} {ρ : Rho} {v : V} {a : Arg} {o : OD} {ρ0 : Rho} {H0 : Hp} (s : SR K F H σ ρ) (h : rA K F H σ ρ ρ0 H0 v a) (e : argO ρ a = some o) : OR K F H v o := by
  cases a with
  | dat d => cases e; exact h
  | slot i =>
    simp only [argO] at e
    cases q : ρ[i]? with
    | none => rw [q] at e; cases e
    | some x =>
      rw [q] at e
      have ex : x = some o := e
      subst ex
      obtain ⟨w, ew, r⟩ := s.sl i o q
      have h : σ[i]? = some (some v) := h
      rw [h] at ew; cases ew
      exact r
theorem argsS_at {K : PySem.W.Frag} {F H : Hp} {σ : St} {ρ : Rho} (s : SR K F H σ ρ) : ∀ {vs : List V} {as : List Arg} {os : List OD}, rAs K F σ vs as → argsS ρ as = some os → os.length = vs.length ∧ ∀ (j : Nat) (o : OD), os[j]? = some o → o.isO = false ∧ ∃ v, vs[j]? = some v ∧ OR K F H v o := fun {vs as} => by
  induction vs generalizing as with
  | nil => intro os r e; cases r; cases e; exact ⟨rfl, fun j o h => by simp at h⟩
  | cons v vs ih =>
    intro os r e
    have hd : ∃ a as', as = a :: as' ∧ rA K F H σ ρ ρ H v a ∧ rAs K F σ vs as' := by
      cases r with
      | dat h t => exact ⟨_, _, rfl, h, t⟩
      | slot h t => exact ⟨_, _, rfl, h, t⟩
    obtain ⟨a, as', rfl, ha, ht⟩ := hd
    simp only [argsS] at e
    cases e1 : argS ρ a with
    | none => rw [e1] at e; cases e
    | some o =>
      cases e2 : argsS ρ as' with
      | none => rw [e1, e2] at e; cases e
      | some os' =>
        rw [e1, e2] at e; cases e
        obtain ⟨h1, h2⟩ := ih ht e2
        refine ⟨by rw [List.length_cons, List.length_cons, h1], fun j o' h => ?_⟩
        cases j with
        | zero =>
          cases h
          unfold argS at e1
          cases e3 : argO ρ a with
          | none => rw [e3] at e1; cases e1
          | some o2 =>
            rw [e3] at e1
            have r := argO_at s ha e3
            cases o2 <;> cases e1 <;> exact ⟨rfl, v, rfl, r⟩
        | succ j => exact h2 j o' h
end
/-- a call whose arguments nobody owns -/
def mCall (f : Fn) (ms : M (List Arg)) : M OD := ms.bind fun as => fun ρ => match argsS ρ as with
  | some os => (match f (os.map some) with
    | .ok r _ => .ok r ρ
    | .ex x _ => .ex x ρ
    | .bad => .bad)
  | none => .bad
end Eg
namespace Eg
open PySem L2 PySem.W PySem.SeqAt
open PyProof.Rows (envOfC)
/-- a call: its arguments from the left, the first may be a slot that is its own -/
def mCallO (f : Fn) (ms : M (List Arg)) : M OD := ms.bind fun as => fun ρ => match as with
  | .slot i :: as' => (match ρ[i]?, argsS ρ as' with
    | some (some o), some os => if o.isO = true then (match f ((o :: os).map some) with
      | .ok r ρa => .ok r (ρ.set i (ρa[0]?.join))
      | .ex x ρa => .ex x (ρ.set i (ρa[0]?.join))
      | .bad => .bad) else .bad
    | _, _ => .bad)
  | _ => .bad
section
variable {K : PySem.W.Frag} {F F' H H' : Hp} {σ : St} {ρ ρa : Rho} {xs : List V} {os : List OD}
theorem SR.args (s : SR K F H σ ρ) (hl : os.length = xs.length) (h : ∀ (j : Nat) (o : OD), os[j]? = some o → o.isO = false ∧ ∃ v, xs[j]? = some v ∧ OR K F H v o) : SR K F H (xs.map some) (os.map some) ∧ ∀ b, ¬ own (xs.map some) (os.map some) b := by
  have lo : ∀ {j : Nat} {o : OD}, (os.map some)[j]? = some (some o) → os[j]? = some o := fun {j o} e => by
    rw [List.getElem?_map] at e
    cases q : os[j]? with
    | none => rw [q] at e; cases e
    | some z => rw [q] at e; cases e; rfl
  refine ⟨⟨s.sub, by simp [hl], fun j o e => ?_, fun j k o o' a ne e i1 => ?_⟩, fun b ⟨j, o, e, i1, _⟩ => ?_⟩
  · obtain ⟨_, v, e1, r⟩ := h j o (lo e)
    exact ⟨v, by rw [List.getElem?_map, e1]; rfl, r⟩
  · rw [(h j o (lo e)).1] at i1; cases i1
  · rw [(h j o (lo e)).1] at i1; cases i1
/-- a call that owns nothing is over -/
theorem SR.after0 (s : SR K F H σ ρ) {σ1 : St} {ρ1 : Rho} (no : ∀ b, ¬ own σ1 ρ1 b) {σ2 : St} {ρ2 : Rho} (g : Grow (own σ1 ρ1) (own σ2 ρ2) F H F' H') (sub : Same F' H') : SR K F' H' σ ρ ∧ Grow (own σ ρ) (own σ ρ) F H F' H' := by
  refine ⟨s.on g.ext sub fun a ha => ?_, ⟨g.ext, fun b o e _ => g.keep b o e (no b), fun b h => ?_, fun b h => .inl h⟩⟩
  · obtain ⟨h1, u, h2⟩ := own.at s ha
    refine ⟨?_, fun u' h => g.keep a u' h (no a)⟩
    cases q : F' a with
    | none => rfl
    | some z =>
      rcases g.new a (by rw [q]; simp) with w | w | w
      · exact absurd h1 w
      · rw [h2] at w; cases w
      · exact absurd w (no a)
  · rcases g.new b h with w | w | w
    · exact .inl w
    · exact .inr (.inl w)
    · exact absurd w (no b)
end
section
variable {X : Cx} {C : Ct} {e a b : Expr} {es : List Expr} {pos p : Pos} {k : Nat} {f : Addr} {fd : FuncData} {ps : List Str} {x : Str} {n : Nat} {m : Fn}
/-- the call itself, its arguments made -/
theorem o_call1 {ms : M (List Arg)} {G : (M (List Arg)) → M OD} (F : FnG X.prog X.w X.K X.mg X.base (L2.CX X.prog X.w) k f fd ps (spI X.K C.XR n m)) (hG : X.A.guards = some []) (hr : Room k X.A) (hg : Gl X x) (hm : X.mg x = some (.ref f)) (hk : PySem.W.keepIn X.K (.ref f) = true) (hb : Binds X.K fd ps []) (tk : Takes X C.W) (ha : PA X (e :: es) (tL C ms))
    (hs : ∀ (σ : St) (ρ : Rho) (F0 H : Hp) (Q : VK), SR C.K F0 H σ ρ → PostE C (rO C.K) σ ρ F0 H Q (G ms ρ) → PostE C (rL C.K) σ ρ F0 H (fun vs H1 => spI X.K C.XR n m vs H1 Q (WE C.W σ)) (ms ρ))
    (hdb : (x == ("__debug__" : Str)) = false := by decide) (he : starEach (e :: es) X.env = (false, eval e X.env) :: starEach es X.env := by rfl) (hpl : (backTo pos (starEach es X.env)).any (·.1) = false := by rfl) : PE X (.Call (.Name x p) (e :: es) [] pos) (tO C (G ms)) := by
  refine ⟨fun pins s σ H Q I ⟨F0, ρ, sr, pp⟩ => ?_⟩
  refine wpAny_Call_Name_kw (ld_glob I hg hm ?_ hdb)
  refine PySem.W.callWith_K (h₀ := X.base) I.ok.mod.kin hk (thn (ha.run pos pins s σ H _ I ⟨F0, ρ, sr, hs σ ρ F0 H Q sr pp⟩) fun us s1 ⟨vs, H1, I1, r, q⟩ => ⟨I1.kIn, ?_⟩) he hpl
  exact run_G (ds := []) (E := WE C.W σ) F hG hr hb (passAt tk σ) I1 (by rw [List.append_nil]; exact r) q
theorem o_fn {ms : M (List Arg)} (F : FnG X.prog X.w X.K X.mg X.base (L2.CX X.prog X.w) k f fd ps (spI X.K C.XR n m)) (hG : X.A.guards = some []) (hr : Room k X.A) (hg : Gl X x) (hm : X.mg x = some (.ref f)) (hk : PySem.W.keepIn X.K (.ref f) = true) (hb : Binds X.K fd ps []) (tk : Takes X C.W) (ha : PA X (e :: es) (tL C ms)) (hl : (e :: es).length = n)
    (hll : ∀ ρ as ρ', ms ρ = .ok as ρ' → as.length = n)
    (hdb : (x == ("__debug__" : Str)) = false := by decide) (he : starEach (e :: es) X.env = (false, eval e X.env) :: starEach es X.env := by rfl) (hpl : (backTo pos (starEach es X.env)).any (·.1) = false := by rfl) (hK : X.K = C.K := by rfl) : PE X (.Call (.Name x p) (e :: es) [] pos) (tO C (mCall m ms)) := by
  refine o_call1 (G := mCall m) F hG hr hg hm hk hb tk ha (fun σ ρ F0 H Q sr pp => ?_) hdb he hpl
  refine PostE.part (RA := rL C.K) pp fun as ρ1 F1 H1 xs e1 q1 g1 s1 r1 => ?_
  have q1 := q1.on stb_O g1
  cases e2 : argsS ρ1 as with
  | none => simp only [e2] at q1; exact q1.elim
  | some os =>
    simp only [e2] at q1
    obtain ⟨h1, h2⟩ := argsS_at s1 r1 e2
    obtain ⟨sa, no⟩ := SR.args s1 h1 h2
    refine ⟨by rw [r1.len]; exact hll _ _ _ e1, F1, os, hK ▸ sa, ?_⟩
    rw [hK]
    cases e3 : m (os.map some) with
    | bad => simp only [e3] at q1; exact q1.elim
    | ok r ρa =>
      simp only [e3] at q1
      intro F' H' v g' s' ro
      obtain ⟨s2, g2⟩ := s1.after0 no g' s'.sub
      refine q1 F' H' v g2 s2 ⟨ro.1, fun io a ea => ?_⟩
      have hn : H1 a = none := ((ro.2 io a ea).2).resolve_right (no a)
      refine ⟨fun z => ?_, .inl hn⟩
      obtain ⟨_, u, hu⟩ := own.at s1 z
      rw [hn] at hu; cases hu
    | ex y ρa =>
      simp only [e3] at q1
      intro F' H' cls d g' s' xr
      obtain ⟨s2, g2⟩ := s1.after0 no g' s'.sub
      exact q1 F' H' cls d g2 s2 xr
theorem o_fnO {ms : M (List Arg)} (F : FnG X.prog X.w X.K X.mg X.base (L2.CX X.prog X.w) k f fd ps (spI X.K C.XR n m)) (hG : X.A.guards = some []) (hr : Room k X.A) (hg : Gl X x) (hm : X.mg x = some (.ref f)) (hk : PySem.W.keepIn X.K (.ref f) = true) (hb : Binds X.K fd ps []) (tk : Takes X C.W) (ha : PA X (e :: es) (tL C ms)) (hl : (e :: es).length = n)
    (hll : ∀ ρ as ρ', ms ρ = .ok as ρ' → as.length = n)
    (hdb : (x == ("__debug__" : Str)) = false := by decide) (he : starEach (e :: es) X.env = (false, eval e X.env) :: starEach es X.env := by rfl) (hpl : (backTo pos (starEach es X.env)).any (·.1) = false := by rfl) (hK : X.K = C.K := by rfl) : PE X (.Call (.Name x p) (e :: es) [] pos) (tO C (mCallO m ms)) := by
  refine o_call1 (G := mCallO m) F hG hr hg hm hk hb tk ha (fun σ ρ F0 H Q sr pp => ?_) hdb he hpl
  refine PostE.part (RA := rL C.K) pp fun as ρ1 F1 H1 xs e1 q1 g1 s1 r1 => ?_
  have q1 := q1.on stb_O g1
  have len1 := hll _ _ _ e1
  cases r1 with
  | nil => exact q1.elim
  | dat _ _ => exact q1.elim
  | @slot x0 i xs as hv rt =>
    simp only at q1
    cases e0 : ρ1[i]? with
    | none => simp only [e0] at q1; exact q1.elim
    | some oo =>
      cases oo with
      | none => simp only [e0] at q1; exact q1.elim
      | some o =>
        cases e2 : argsS ρ1 as with
        | none => simp only [e0, e2] at q1; exact q1.elim
        | some os =>
          simp only [e0, e2] at q1
          split at q1
          · rename_i io
            obtain ⟨h1, h2⟩ := argsS_at s1 rt e2
            obtain ⟨v0, ev0, or0⟩ := s1.sl i o e0
            rw [hv] at ev0; cases ev0
            have lo : ∀ {j : Nat} {u : OD}, ((o :: os).map some)[j]? = some (some u) → (j = 0 ∧ u = o) ∨ (∃ j', j = j' + 1 ∧ os[j']? = some u) := fun {j u} e => by
              cases j with
              | zero => simp at e; exact .inl ⟨rfl, e.symm⟩
              | succ j => exact .inr ⟨j, rfl, by simpa using e⟩
            have sa : SR C.K F1 H1 ((x0 :: xs).map some) ((o :: os).map some) := by
              refine ⟨s1.sub, by simp [h1], fun j u e => ?_, fun j k u u' c ne e i1 e' i2 => ?_⟩
              · rcases lo e with ⟨rfl, rfl⟩ | ⟨j', rfl, e5⟩
                · exact ⟨x0, rfl, or0⟩
                · obtain ⟨_, v, e1, r⟩ := h2 _ _ e5
                  exact ⟨v, by simpa using e1, r⟩
              · rcases lo e with ⟨rfl, rfl⟩ | ⟨j', rfl, e5⟩
                · rcases lo e' with ⟨rfl, rfl⟩ | ⟨k', rfl, e6⟩
                  · exact absurd rfl ne
                  · rw [(h2 _ _ e6).1] at i2; cases i2
                · rw [(h2 _ _ e5).1] at i1; cases i1
            have oi : ∀ b, own ((x0 :: xs).map some) ((o :: os).map some) b → x0 = .ref b := fun b ⟨j, u, e, i1, e'⟩ => by
              rcases lo e with ⟨rfl, rfl⟩ | ⟨j', rfl, e5⟩
              · simpa using e'
              · rw [(h2 _ _ e5).1] at i1; cases i1
            have oo : ∀ b, own ((x0 :: xs).map some) ((o :: os).map some) b → own σ ρ1 b := fun b z => ⟨i, o, e0, io, by rw [hv, oi b z]⟩
            have il : i < ρ1.length := (List.getElem?_eq_some_iff.mp e0).1
            -- behind it
            have aft : ∀ {F' H' : Hp} {ρa : Rho}, Grow (own ((x0 :: xs).map some) ((o :: os).map some)) (own ((x0 :: xs).map some) ρa) F1 H1 F' H' → SR C.K F' H' ((x0 :: xs).map some) ρa →
                SR C.K F' H' σ (ρ1.set i (ρa[0]?.join)) ∧ Grow (own σ ρ1) (own σ (ρ1.set i (ρa[0]?.join))) F1 H1 F' H' ∧ (∀ c, own σ (ρ1.set i (ρa[0]?.join)) c → own σ ρ1 c) ∧
                ∀ c, own σ (ρ1.set i (ρa[0]?.join)) c → own ((x0 :: xs).map some) ρa c ∨ (¬ x0 = .ref c ∧ own σ ρ1 c) := fun {F' H' ρa} g' s' => by
              have at' : ∀ {j : Nat} {u : OD}, (ρ1.set i (ρa[0]?.join))[j]? = some (some u) → (j = i ∧ ρa[0]? = some (some u)) ∨ (j ≠ i ∧ ρ1[j]? = some (some u)) := fun {j u} e => by
                by_cases q : i = j
                · subst q
                  rw [List.getElem?_set_self il] at e
                  have e := Option.some.inj e
                  refine .inl ⟨rfl, ?_⟩
                  cases q2 : ρa[0]? with
                  | none => rw [q2] at e; cases e
                  | some z => rw [q2] at e; exact congrArg some e
                · rw [List.getElem?_set_ne q] at e
                  exact .inr ⟨fun z => q z.symm, e⟩
              have ow1 : ∀ c, own σ (ρ1.set i (ρa[0]?.join)) c → own σ ρ1 c := fun c ⟨j, u, e, i1, e'⟩ => by
                rcases at' e with ⟨rfl, e5⟩ | ⟨ne5, e5⟩
                · exact ⟨j, o, e0, io, e'⟩
                · exact ⟨j, u, e5, i1, e'⟩
              refine ⟨⟨s'.sub, by rw [List.length_set]; exact s1.len, fun j u e => ?_, fun j k u u' c ne e i1 e' i2 e3 e4 => ?_⟩, ⟨g'.ext, fun b u e n => g'.keep b u e fun z => n (oo b z), fun b h => ?_, fun b h => .inl (ow1 b h)⟩, ow1, fun c ⟨j, u, e, i1, e'⟩ => ?_⟩
              · rcases at' e with ⟨rfl, e5⟩ | ⟨ne5, e5⟩
                · obtain ⟨v, e1, r⟩ := s'.sl 0 u e5
                  simp at e1; subst e1
                  exact ⟨x0, hv, r⟩
                · obtain ⟨v, e1, r⟩ := s1.sl j u e5
                  refine ⟨v, e1, r.keep g'.ext fun c ec iu => ?_⟩
                  subst ec
                  have nn : ¬ own ((x0 :: xs).map some) ((o :: os).map some) c := fun z => by
                    have := oi c z; subst this
                    exact s1.sep j i u o c ne5 e5 iu e0 io e1 hv
                  obtain ⟨f1, w, hw⟩ := own.at s1 ⟨j, u, e5, iu, e1⟩
                  refine ⟨?_, fun w' h => g'.keep c w' h nn⟩
                  cases q : F' c with
                  | none => rfl
                  | some z =>
                    rcases g'.new c (by rw [q]; simp) with w2 | w2 | w2
                    · exact absurd f1 w2
                    · rw [hw] at w2; cases w2
                    · exact absurd w2 nn
              · rcases at' e with ⟨rfl, e5⟩ | ⟨n1, e5⟩
                · rcases at' e' with ⟨rfl, e6⟩ | ⟨n2, e6⟩
                  · exact absurd rfl ne
                  · exact s1.sep j k o u' c ne e0 io e6 i2 e3 e4
                · rcases at' e' with ⟨rfl, e6⟩ | ⟨n2, e6⟩
                  · exact s1.sep j k u o c ne e5 i1 e0 io e3 e4
                  · exact s1.sep j k u u' c ne e5 i1 e6 i2 e3 e4
              · rcases g'.new b h with w | w | w
                · exact .inl w
                · exact .inr (.inl w)
                · exact .inr (.inr (oo b w))
              · rcases at' e with ⟨rfl, e5⟩ | ⟨ne5, e5⟩
                · rw [hv] at e'
                  have e' := Option.some.inj (Option.some.inj e')
                  exact .inl ⟨0, u, e5, i1, by rw [e']; rfl⟩
                · refine .inr ⟨fun z => ?_, ⟨j, u, e5, i1, e'⟩⟩
                  subst z
                  exact s1.sep j i u o c ne5 e5 i1 e0 io e' hv
            refine ⟨?_, F1, o :: os, hK ▸ sa, ?_⟩
            · have := rt.len
              rw [List.length_cons, this]; exact len1
            rw [hK]
            cases e3 : m ((o :: os).map some) with
            | bad => simp only [e3] at q1; exact q1.elim
            | ok r ρa =>
              simp only [e3] at q1
              intro F' H' v g' s' ro
              obtain ⟨s2, g2, a3, a4⟩ := aft g' s'
              refine q1 F' H' v g2 s2 ⟨ro.1, fun ir c ec => ?_⟩
              obtain ⟨n1, n2⟩ := ro.2 ir c ec
              refine ⟨fun z => ?_, n2.imp id (oo c)⟩
              rcases a4 c z with w | ⟨w1, w2⟩
              · exact n1 w
              · rcases n2 with n2 | n2
                · obtain ⟨_, u, hu⟩ := own.at s1 w2
                  rw [n2] at hu; cases hu
                · exact w1 (oi c n2)
            | ex y ρa =>
              simp only [e3] at q1
              intro F' H' cls d g' s' xr
              obtain ⟨s2, g2, a3, a4⟩ := aft g' s'
              exact q1 F' H' cls d g2 s2 xr
          · exact q1.elim
end
end Eg
namespace Eg
open PySem L2 PySem.W PySem.SeqAt
/-! ## dict displays -/
def mPairs : List (Str × M PyData) → M (List (Key × PyData))
  | [] => M.ret []
  | (k, m) :: r => m.bind fun d => (mPairs r).bind fun ds => M.ret ((.inr k, d) :: ds)
def dMerge (kvs more : List (Key × PyData)) : List (Key × PyData) := more.foldl (fun acc kv => dPut acc kv.1 kv.2) kvs
def mDisp (l : List (Str × M PyData)) : M OD := (mPairs l).bind fun ds => M.ret (.od (dMerge [] ds))
theorem KD.merge {K : PySem.W.Frag} {H : Hp} : ∀ {es : List (Key × V)} {kvs : List (Key × PyData)} {es0 : List (Key × V)} {kvs0 : List (Key × PyData)}, KD K H es kvs → KD K H es0 kvs0 → KD K H (mergeK es0 es) (dMerge kvs0 kvs)
  | _, _, _, _, .nil, h => h
  | _, _, es0, kvs0, .cons (k := k) (v := v) (d := d) (es := es) (kvs := kvs) h t, h0 => by
    show KD K H (mergeK (putK es0 k v) es) (dMerge (dPut kvs0 k d) kvs)
    exact KD.merge t (KD.put h h0)
section
variable {X : Cx} {C : Ct} {e a b c o : Expr} {es : List Expr} {pos apos cpos pos' : Pos} {P : List Nat}
def trsOf (C : Ct) (l : List (Str × M PyData)) : List (TE × TE) := l.map fun p => (tD C (M.ret (.str p.1)), tD C p.2)
def rPs (K : PySem.W.Frag) : Hp → Hp → St → Rho → Rho → Hp → List (V × V) → List (Key × PyData) → Prop := fun F' _ _ _ _ _ ps kds => ∃ es : List (Key × V), ps = es.map (fun kv => (kV kv.1, kv.2)) ∧ KD K F' es kds
theorem pairs_read : ∀ {l : List (Str × M PyData)} {σ : St} {F H : Hp} {ρ : Rho} {Q : List (V × V) → Hp → Prop}, SR C.K F H σ ρ → PostE C (rPs C.K) σ ρ F H Q (mPairs l ρ) → tPairs (trsOf C l) σ H Q
  | [], σ, F, H, ρ, Q, sr, p => p F H [] Grow.refl sr ⟨[], rfl, .nil⟩
  | (k, m) :: l, σ, F, H, ρ, Q, sr, p => by
    refine ⟨F, ρ, sr, fun F1 H1 x g1 s1 r1 => ?_⟩
    have ex : x = kV (.inr k) := by cases r1; rfl
    subst ex
    have st : Stb (rPs C.K) := fun _ _ _ _ _ _ _ _ _ _ _ _ _ r => r
    have p1 := p.on st g1
    refine ⟨F1, ρ, s1, p1.part fun d ρ2 F2 H2 y e2 q2 g2 s2 r2 => ?_⟩
    have q2 := q2.on st g2
    refine pairs_read s2 (q2.part fun ds ρ3 F3 H3 ps e3 q3 g3 s3 r3 => ?_)
    obtain ⟨es, ep, kd⟩ := r3
    exact q3 F3 H3 _ g3 s3 ⟨(.inr k, y) :: es, by rw [ep]; rfl, .cons (DV.mono g3.ext r2) kd⟩
theorem mPairs_len : ∀ {l : List (Str × M PyData)} {ρ ρ' : Rho} {ds : List (Key × PyData)}, mPairs l ρ = .ok ds ρ' → ds.length = l.length
  | [], _, _, _, e => by cases e; rfl
  | (k, m) :: l, ρ, ρ', ds, e => by
    simp only [mPairs, M.bind] at e
    cases e1 : m ρ with
    | bad => rw [e1] at e; cases e
    | ex _ _ => rw [e1] at e; cases e
    | ok d ρ1 =>
      rw [e1] at e
      simp only at e
      cases e2 : mPairs l ρ1 with
      | bad => rw [e2] at e; cases e
      | ex _ _ => rw [e2] at e; cases e
      | ok ds' ρ2 =>
        rw [e2] at e
        cases e
        rw [List.length_cons, List.length_cons, mPairs_len e2]
theorem o_disp {keys : List (Option Expr)} {values : List Expr} {l : List (Str × M PyData)} (h : PPs X pos keys values (trsOf C l)) (hall : keys.all (·.isSome) = true := by rfl) (hl : keys.length = values.length := by rfl) (h0 : keys ≠ [] := by exact List.cons_ne_nil _ _) (h15 : keys.length ≤ 15 := by decide)
    (hl2 : l.length ≤ 15 := by decide) : PE X (.Dict keys values pos) (tO C (mDisp l)) := by
  refine (pe_disp h hall hl h0 h15).imp fun σ H Q ⟨F, ρ, sr, p⟩ => fun d hd => ?_
  have n0 : ¬ own σ ρ d := fun z => by
    obtain ⟨_, u, hu⟩ := own.at sr z
    rw [hd] at hu; cases hu
  refine pairs_read (F := F) (ρ := ρ) (sr.fresh hd) ?_
  have g0 : Grow (own σ ρ) (own σ ρ) F H F (upd H d (.dK [])) := Grow.fresh hd
  unfold mDisp at p
  refine PostE.part (p.on stb_O g0) fun kds ρ1 F1 H1 ps e1 q1 g1 s1 r1 => ?_
  obtain ⟨es, ep, kd⟩ := r1
  have f1 : F1 d = none := by
    cases q : F1 d with
    | none => rfl
    | some u =>
      rcases g1.new d (by rw [q]; simp) with z | z | z
      · exact absurd (sr.sub.free hd) z
      · rw [upd_same] at z; cases z
      · exact absurd z n0
  have n1 : ¬ own σ ρ1 d := fun z => by
    rcases g1.ows d z with y | y
    · exact n0 y
    · rw [upd_same] at y; cases y
  refine ⟨g1.keep d _ upd_same n0, es, ep, ?_, ?_⟩
  · rw [kd.len, mPairs_len e1]; exact hl2
  · have s2 : SR C.K F1 (upd H1 d (.dK (mergeK [] es))) σ ρ1 := s1.on (Same.refl _) (fun b u q => by rw [upd_ne (ne_of_none q f1)]; exact s1.sub b u q) fun a ha => by
      obtain ⟨fa, u, hu⟩ := own.at s1 ha
      exact ⟨fa, fun u' q => by rw [upd_ne (fun z => n1 (by rw [← z]; exact ha))]; exact q⟩
    have q0 := p
    unfold M.bind at q0
    rw [e1] at q0
    have ga := g0.trans g1
    refine q0 F1 _ (.ref d) ⟨ga.ext, fun b u q n => ?_, ga.new, ga.ows⟩ s2 ⟨⟨d, mergeK [] es, rfl, f1, upd_same, kd.merge .nil⟩, fun _ a ea => by cases ea; exact ⟨n1, .inl hd⟩⟩
    rw [upd_ne (ne_of_none q hd)]
    exact ga.keep b u q n
theorem pp_nil : PPs X pos [] [] (trsOf C []) := pps_nil
theorem pp_cons {k : Str} {m : M PyData} {ks : List (Option Expr)} {vs : List Expr} {l : List (Str × M PyData)} {j p2} (hv : PE X e (tD C m)) (hr : PPs X pos ks vs (trsOf C l)) : PPs X pos (some (.Constant (.str k) j p2) :: ks) (e :: vs) (trsOf C ((k, m) :: l)) :=
  pps_cons d_str hv hr
/-! ## d[k] = v of a slot -/
def sPut (i : Nat) (mv mk : M PyData) : M Out := mv.bind fun d => mHas i (mk.bind fun kd => fun ρ => match keyD kd, ρ[i]? with
  | some k, some (some (.od kvs)) => if kvs.length < sizeLine then .ok .nx (ρ.set i (some (.od (dPut kvs k d)))) else .bad
  | _, _ => .bad)
theorem s_put {i : Nat} {value : Expr} {mv mk : M PyData} (hu : X.A.units + 1 < cLine) (ho : PE X o (tVar i)) (hi : PE X e (tD C mk)) (hv : PE X value (tD C mv)) (hs : swapsWith value (some (.Subscript o e pos')) pos.line X.env = pure false := by rfl) :
    PS X (.Assign [.Subscript o e pos'] value pos) (tS C P (sPut i mv mk)) :=
  (ps_dput hu ho hi hv hs).imp fun D σ H ⟨F, ρ, sr, p⟩ => by
    refine ⟨F, ρ, sr, PostS.part (P := P) p fun d ρ1 F1 H1 v q1 g1 s1 r1 => ?_⟩
    unfold mHas at q1
    split at q1
    · rename_i oo eo
      obtain ⟨x, hx, _⟩ := s1.sl i _ eo
      refine ⟨x, hx, F1, ρ1, s1, PostS.part (P := P) q1 fun kd ρ2 F2 H2 y q2 g2 s2 r2 => ?_⟩
      split at q2
      · rename_i k kvs ek eo2
        split at q2
        · rename_i hz
          obtain ⟨x', hx', a, es, rfl, k1, k2, k3⟩ := s2.sl i _ eo2
          rw [hx] at hx'; cases hx'
          have ey := keyD_at r2 ek
          subst ey
          have st := SR.write (i := i) (o' := .od (dPut kvs k d)) (u := .dK (putK es k v)) s2 eo2 rfl hx rfl ⟨a, putK es k v, rfl, k1, upd_same, k3.put (DV.mono g2.ext r1)⟩
          exact ⟨a, _, rfl, DPut.k k2 (by rw [k3.len]; exact hz), q2 F2 _ σ st.2 st.1 Pres.refl⟩
        · exact q2.elim
      · exact q2.elim
    · exact q1.elim
/-! ## a, b = x, y -/
def sPar (i j : Nat) (ma mb : M OD) : M Out := ma.bind fun u => mb.bind fun w => fun ρ => .ok .nx ((ρ.set i (some u)).set j (some w))
theorem s_par {i j : Nat} {x y : Str} {ma mb : M OD} {px py pt : Pos} {kt k2 pt2} (hc : X.calm = true) (hN : X.N.Nodup) (hi : X.N[i]? = some x) (hj : X.N[j]? = some y)
    (hx : X.env.scope.names.lookup x = some .local) (hy : X.env.scope.names.lookup y = some .local) (ha : PE X a (tO C ma)) (hb : PE X b (tO C mb)) 
    (hw : swappedStores [.Tuple [.Name x px, .Name y py] kt pt] (.Tuple [a, b] k2 pt2) X.env = pure (some [x, y]) := by rfl) (hij : i ≠ j := by decide) (hPi : i ∉ P := by decide) (hPj : j ∉ P := by decide)
    (hs : swapsWithSole [.Tuple [.Name x px, .Name y py] kt pt] (.Tuple [a, b] k2 pt2) pos.line X.env = pure false := by rfl)
    (hsa : starEach [a, b] X.env = (false, eval a X.env) :: starEach [b] X.env := by rfl) (hsb : starEach [b] X.env = (false, eval b X.env) :: starEach [] X.env := by rfl) :
    PS X (.Assign [.Tuple [.Name x px, .Name y py] kt pt] (.Tuple [a, b] k2 pt2) pos) (tS C P (sPar i j ma mb)) := by
  refine ⟨fun pins s σ H D I ⟨F, ρ, sr, p⟩ => (ps_par hc hN hi hj hij hx hy (pa_cons ha (pa_cons hb pa_nil hsb) hsa) hw hs).run pins s σ H D I ?_⟩
  have li : i < σ.length := by rw [I.len]; exact (List.getElem?_eq_some_iff.mp hi).1
  have lj : j < σ.length := by rw [I.len]; exact (List.getElem?_eq_some_iff.mp hj).1
  unfold sPar M.bind at p
  refine ⟨F, ρ, sr, ?_⟩
  cases e1 : ma ρ with
  | bad => rw [e1] at p; exact p
  | ex x ρ' => rw [e1] at p; exact fun F' H' cls d g s r => p F' H' σ cls d g s Pres.refl r
  | ok u ρ1 =>
  simp only [e1] at p
  intro F1 H1 v g1 s1 r1
  refine ⟨F1, ρ1, s1, ?_⟩
  cases e2 : mb ρ1 with
  | bad => simp only [e2] at p; exact p.elim
  | ex x ρ' => simp only [e2] at p; exact fun F' H' cls d g s r => p F' H' σ cls d (g1.trans g) s Pres.refl r
  | ok w ρ2 =>
  simp only [e2] at p
  intro F2 H2 z g2 s2 r2
  refine ⟨v, z, rfl, ?_⟩
  -- the first thing is as it was
  have keep1 : ∀ a, v = .ref a → u.isO = true → ¬ own σ ρ1 a ∧ (∃ o, H1 a = some o) ∧ F1 a = none := fun a ea io => by
    obtain ⟨b, o, eb, fb, hb⟩ := r1.1.refs io
    rw [eb] at ea; cases ea
    exact ⟨(r1.2 io a eb).1, ⟨o, hb⟩, fb⟩
  have or1 : OR C.K F2 H2 v u := r1.1.keep g2.ext fun a ea io => by
    obtain ⟨n1, ⟨o, ho⟩, fa⟩ := keep1 a ea io
    refine ⟨?_, fun o' h => g2.keep a o' h n1⟩
    cases q : F2 a with
    | none => rfl
    | some z =>
      rcases g2.new a (by rw [q]; simp) with y | y | y
      · exact absurd fa y
      · rw [ho] at y; cases y
      · exact absurd y n1
  have no2 : ∀ a, v = .ref a → u.isO = true → ¬ own σ ρ2 a := fun a ea io y => by
    obtain ⟨n1, ⟨o, ho⟩, _⟩ := keep1 a ea io
    rcases g2.ows a y with k | k
    · exact n1 k
    · rw [ho] at k; cases k
  have sA : SR C.K F2 H2 (σ.set i (some v)) (ρ2.set i (some u)) := s2.store li or1 fun io a ea => no2 a ea io
  have sB : SR C.K F2 H2 ((σ.set i (some v)).set j (some z)) ((ρ2.set i (some u)).set j (some w)) := by
    refine sA.store (by rw [List.length_set]; exact lj) r2.1 fun io a ea y => ?_
    rcases own.store li y with k | ⟨k1, k2⟩
    · exact (r2.2 io a ea).1 k
    · obtain ⟨n1, ⟨o, ho⟩, _⟩ := keep1 a k2 k1
      rcases (r2.2 io a ea).2 with m | m
      · rw [ho] at m; cases m
      · exact n1 m
  have g := g1.trans g2
  refine p F2 H2 _ ⟨g.ext, g.keep, g.new, fun b y => ?_⟩ sB ⟨by rw [List.length_set, List.length_set], fun p hp => ?_⟩
  · rcases own.store (by rw [List.length_set]; exact lj) y with y | ⟨k1, k2⟩
    · rcases own.store li y with k | ⟨k1, k2⟩
      · exact g.ows b k
      · exact ((r1.2 k1 b k2).2).symm
    · rcases (r2.2 k1 b k2).2 with m | m
      · exact (g1.back m).symm
      · exact g1.ows b m
  · rw [List.getElem?_set_ne (fun z => hPj (by rw [z]; exact hp)), List.getElem?_set_ne (fun z => hPi (by rw [z]; exact hp))]
end
end Eg
namespace Eg
open PySem L2 PySem.W PySem.SeqAt
section
variable {X : Cx} {C : Ct} {e a b c o : Expr} {es : List Expr} {pos apos cpos pos' : Pos} {P : List Nat}
/-- name = [..] -/
theorem s_setC {i : Nat} {y : Str} {py : Pos} {elt tg iter : Expr} {ifs : List Expr} {scope : Scope} {own : List (Str × Nat)} {pos spos : Pos} {g : TG} {t : Tgt} {src : M (List PyData)} {mt : M Bool} {me : M PyData} {n : Nat} (hc : X.calm = true) (hN : X.N.Nodup) (hy : X.N[i]? = some y) (hyl : X.env.scope.names.lookup y = some .local)
    (hsw : swapsWith (.ListComp elt [⟨tg, iter, ifs, 0⟩] scope pos) (some (.Name y py)) spos.line X.env = pure true) (hi : PI X tg iter (tI C src)) (ok : BlkOk X.N X.env.scope scope own)
    (hg : ∀ (s : Shared) (H : Hp) (D : Addr) (cl : List (Str × Addr)) (fp : List Addr), PG (X.blk s H scope (compEnvC scope cl D X.env) fp) tg g) (htg : TgOk C.quiet (outs n (own.map (·.2))) n g t)
    (ht : ∀ (s : Shared) (H : Hp) (D : Addr) (cl : List (Str × Addr)) (fp : List Addr), PTs (X.blk s H scope (compEnvC scope cl D X.env) fp) ifs (tT C.quiet mt))
    (he : ∀ (s : Shared) (H : Hp) (D : Addr) (cl : List (Str × Addr)) (fp : List Addr), PE (X.blk s H scope (compEnvC scope cl D X.env) fp) elt (tD C.quiet me)) (hP : i ∉ P := by decide) (hL : X.N.length = n := by rfl) (hs : ∀ x, foldedSetIterable iter X.env x = pure x := by intro _; rfl) :
    PS X (.Assign [.Name y py] (.ListComp elt [⟨tg, iter, ifs, 0⟩] scope pos) spos) (tS C P (sSet i (mComp src t mt me (own.map (·.2))))) := by
  refine ⟨fun pins s σ H D I ⟨F, ρ, sr, p⟩ => (ps_setLc hc hN hy hyl hsw hi ok hg ht he hs).run pins s σ H D I ?_⟩
  have q := PostS.set p (by rw [I.len]; exact (List.getElem?_eq_some_iff.mp hy).1) hP
  exact lc_read (by rw [I.len, hL]) htg ⟨F, ρ, sr, q⟩
/-! ## two clauses -/
theorem lc_in {g : TG} {t : Tgt} {mt : M Bool} {me : M PyData} {vs : List Nat} {n : Nat} {σ : St} {ow0 : Addr → Prop} {F1 H1 F H : Hp} {D : Addr} {J : It} {xs acc accI : List PyData} {accV : List V} {ρ ρI : Rho} {Z : Hp → Prop} (hn : σ.length = n) (ht : TgOk C.quiet (outs n vs) n g t) (hD : H1 D = none)
    (sr : SR C.K F H (wipe σ vs) (wipeR ρ vs)) (gw : Grow ow0 (own (wipe σ vs) (wipeR ρ vs)) F1 H1 F H) (nD : ¬ own (wipe σ vs) (wipeR ρ vs) D) (fD : F D = none) (eD : H D = some (.lst accV)) (dv : DVs C.K F accV acc) (wk : WalkD C.K F J xs) (er : lcGo t mt me vs xs acc ρ = .ok accI ρI)
    (hZ : ∀ F' H' accV', SR C.K F' H' (wipe σ vs) (wipeR ρI vs) → Grow ow0 (own (wipe σ vs) (wipeR ρI vs)) F1 H1 F' H' → ¬ own (wipe σ vs) (wipeR ρI vs) D → F' D = none → H' D = some (.lst accV') → DVs C.K F' accV' accI → Z H') :
    ∃ W : Nat → Nat → Hp → Prop, (∃ m, W 0 m H) ∧ ∀ i m H, W i m H → (J.stop i H ∧ Z H) ∨ (J.go i H ∧ ∃ Nx : Hp → Prop, (∀ H', Nx H' → ∃ m', m' < m ∧ W (i + 1) m' H') ∧ ∀ x H', J.yld i H x H' →
      g x (wipe σ vs) H' fun σ2 H2 => wipe σ2 vs = wipe σ vs ∧ tT C.quiet mt σ2 H2 fun b H3 => if b = true then tD C.quiet me σ2 H3 fun y H4 => ∃ acc, H4 D = some (.lst acc) ∧ acc.length < sizeLine ∧ Nx (upd H4 D (.lst (acc ++ [y]))) else Nx H3) := by
  refine ⟨fun i m H' => m = xs.length - i ∧ i ≤ xs.length ∧ ∃ F' ρ' acc accV, SR C.K F' H' (wipe σ vs) (wipeR ρ' vs) ∧ Grow ow0 (own (wipe σ vs) (wipeR ρ' vs)) F1 H1 F' H' ∧ Same F F' ∧
    ¬ own (wipe σ vs) (wipeR ρ' vs) D ∧ F' D = none ∧ H' D = some (.lst accV) ∧ DVs C.K F' accV acc ∧ lcGo t mt me vs (xs.drop i) acc ρ' = .ok accI ρI,
    ⟨xs.length, by simp, Nat.zero_le _, F, ρ, acc, accV, sr, gw, Same.refl _, nD, fD, eD, dv, by rw [List.drop_zero]; exact er⟩, ?_⟩
  rintro i m H' ⟨rfl, hil, F', ρ', acc, accV, s', gw, sF, nD, fD, eD, dv, er⟩
  obtain ⟨w1, w2⟩ := wk F' H' i sF s'.sub
  by_cases hlt : i < xs.length
  · obtain ⟨x, ex⟩ : ∃ x, xs[i] = x := ⟨_, rfl⟩
    obtain ⟨go, yl⟩ := w2 x (by rw [← ex]; simp [hlt])
    rw [List.drop_eq_getElem_cons hlt, ex] at er
    simp only [lcGo] at er
    refine .inr ⟨go, fun H2 => ∃ F' ρ' acc accV, SR C.K F' H2 (wipe σ vs) (wipeR ρ' vs) ∧ Grow ow0 (own (wipe σ vs) (wipeR ρ' vs)) F1 H1 F' H2 ∧ Same F F' ∧
      ¬ own (wipe σ vs) (wipeR ρ' vs) D ∧ F' D = none ∧ H2 D = some (.lst accV) ∧ DVs C.K F' accV acc ∧ lcGo t mt me vs (xs.drop (i + 1)) acc ρ' = .ok accI ρI, fun H2 h2 => ⟨xs.length - (i + 1), by omega, rfl, by omega, h2⟩, fun v H2 y => ?_⟩
    obtain ⟨F2, al⟩ := yl v H2 y
    cases et : t x (wipeR ρ' vs) with
    | none => simp only [et] at er; cases er
    | some ρ2 =>
      simp only [et] at er
      have st : SR C.K F2 H2 (wipe σ vs) (wipeR ρ' vs) ∧ Grow (own (wipe σ vs) (wipeR ρ' vs)) (own (wipe σ vs) (wipeR ρ' vs)) F' H' F2 H2 ∧ DV C.K F2 v x ∧ F2 D = none ∧ H2 D = some (.lst accV) := by
        cases al with
        | asis h => exact ⟨s', Grow.refl, h, fD, eD⟩
        | tup hp h =>
          have fp := s'.sub.free hp
          have ne := ne_of_none eD hp
          exact ⟨s'.laid hp, Grow.laid hp fp, .tup (.inl (.inl upd_same)) (h.upd fp), by rw [upd_ne ne]; exact fD, by rw [upd_ne ne]; exact eD⟩
      obtain ⟨s2, g2, dx, fD2, eD2⟩ := st
      refine ht v x (wipe σ vs) (wipeR ρ' vs) ρ2 F2 H2 _ (by rw [wipe_length]; exact hn) s2 dx et fun σ3 s3 o3 p3 => ?_
      have ew : wipe σ3 vs = wipe σ vs := by
        rw [← wipe_wipe σ vs]
        exact wipe_ext p3.1 fun j hj q => p3.2 j (mem_outs (by rw [wipe_length, hn] at hj; exact hj) q)
      have g3 : Grow (own (wipe σ vs) (wipeR ρ' vs)) (own σ3 ρ2) F' H' F2 H2 := g2.less o3
      have nD3 : ¬ own σ3 ρ2 D := fun z => nD (o3 D z)
      refine ⟨ew, F2, ρ2, s3, ?_⟩
      cases emt : mt ρ2 with
      | bad => simp only [emt] at er; cases er
      | ex x r => simp only [emt] at er; cases er
      | ok k ρ3 =>
        simp only [emt] at er
        intro F3 H3 k' g4 s4 ek
        subst ek
        have nD4 : ¬ own σ3 ρ3 D := fun z => (g4.ows D z).elim nD3 fun y => by rw [eD2] at y; cases y
        have stay : ∀ {Fa Ha Fb Hb : Hp} {o1 o2 : Addr → Prop}, Grow o1 o2 Fa Ha Fb Hb → ¬ o1 D → Fa D = none → Ha D = some (.lst accV) → Fb D = none ∧ Hb D = some (.lst accV) := fun {Fa Ha Fb Hb o1 o2} g n f h => by
          refine ⟨?_, g.keep D _ h n⟩
          cases q : Fb D with
          | none => rfl
          | some u =>
            rcases g.new D (by rw [q]; simp) with z | z | z
            · exact absurd f z
            · rw [h] at z; cases z
            · exact absurd z n
        obtain ⟨fD4, eD4⟩ := stay g4 nD3 fD2 eD2
        have back : ∀ {F5 H5 : Hp} {ρ5 : Rho}, SR C.K F5 H5 σ3 ρ5 → SR C.K F5 H5 (wipe σ vs) (wipeR ρ5 vs) := fun {F5 H5 ρ5} s => by
          have := s.wipes vs
          rw [ew] at this
          exact this
        have lessW : ∀ {ρ5 : Rho} {b : Addr}, own (wipe σ vs) (wipeR ρ5 vs) b → own σ3 ρ5 b := fun {ρ5 b} z => by
          rw [← ew] at z
          exact (own.wipes z).1
        cases k' with
        | false =>
          simp only at er
          rw [if_neg Bool.false_ne_true]
          exact ⟨F3, ρ3, acc, accV, back s4, (gw.trans (g3.trans g4)).less fun b z => lessW z, sF.trans (g3.trans g4).ext, fun z => nD4 (lessW z), fD4, eD4, DVs.mono (g3.trans g4).ext dv, er⟩
        | true =>
          simp only at er
          rw [if_pos rfl]
          refine ⟨F3, ρ3, s4, ?_⟩
          cases eme : me ρ3 with
          | bad => simp only [eme] at er; cases er
          | ex x r => simp only [eme] at er; cases er
          | ok d ρ5 =>
            simp only [eme] at er
            split at er
            · rename_i hz
              intro F5 H5 y5 g5 s5 r5
              have nD5 : ¬ own σ3 ρ5 D := fun z => (g5.ows D z).elim nD4 fun y => by rw [eD4] at y; cases y
              obtain ⟨fD5, eD5⟩ := stay g5 nD4 fD4 eD4
              have gl := g3.trans (g4.trans g5)
              have s6 : SR C.K F5 (upd H5 D (.lst (accV ++ [y5]))) σ3 ρ5 := s5.on (Same.refl _) (fun b u q => by rw [upd_ne (ne_of_none q fD5)]; exact s5.sub b u q) fun a ha => by
                obtain ⟨fa, u, hu⟩ := own.at s5 ha
                exact ⟨fa, fun u' q => by rw [upd_ne (fun z => nD5 (by rw [← z]; exact ha))]; exact q⟩
              refine ⟨accV, eD5, by rw [dv.len]; exact hz, F5, ρ5, acc ++ [d], accV ++ [y5], back s6, ?_, sF.trans gl.ext, fun z => nD5 (lessW z), fD5, upd_same, (DVs.mono gl.ext dv).append (.cons r5 .nil), er⟩
              have gall := gw.trans gl
              refine ⟨gall.ext, fun b o q n => ?_, gall.new, fun b z => gall.ows b (lessW z)⟩
              rw [upd_ne (ne_of_none q hD)]
              exact gall.keep b o q n
            · cases er
  · have ei : i = xs.length := by omega
    subst ei
    rw [List.drop_length] at er
    simp only [lcGo, M.ret] at er
    cases er
    exact .inl ⟨w1 (Nat.le_refl _), hZ F' H' accV s' gw nD fD eD dv⟩
def lc2Go (t : Tgt) (mt : M Bool) (src1 : M (List PyData)) (t1 : Tgt) (mt1 : M Bool) (me : M PyData) (vs vs1 : List Nat) : List PyData → List PyData → M (List PyData)
  | [], acc => M.ret acc
  | x :: xs, acc => fun ρ => match t x (wipeR ρ vs) with
    | none => .bad
    | some ρ1 => match mt ρ1 with
      | .ok false ρ2 => lc2Go t mt src1 t1 mt1 me vs vs1 xs acc ρ2
      | .ok true ρ2 => (match src1 ρ2 with
        | .ok ys ρ3 => (match lcGo t1 mt1 me vs1 ys acc ρ3 with
          | .ok acc' ρ4 => lc2Go t mt src1 t1 mt1 me vs vs1 xs acc' ρ4
          | _ => .bad)
        | _ => .bad)
      | _ => .bad
def mComp2 (src : M (List PyData)) (t : Tgt) (mt : M Bool) (src1 : M (List PyData)) (t1 : Tgt) (mt1 : M Bool) (me : M PyData) (vs vs1 : List Nat) : M OD := src.bind fun xs => fun ρ => match lc2Go t mt src1 t1 mt1 me vs vs1 xs [] ρ with
  | .ok acc ρ' => if ρ'.length = ρ.length then .ok (.ol acc) (restR ρ ρ' vs) else .bad
  | _ => .bad
theorem wipe_sub {σ : St} {vs vs1 : List Nat} (h : ∀ i ∈ vs1, i ∈ vs) : wipe (wipe σ vs1) vs = wipe σ vs := wipe_ext (wipe_length σ vs1) fun j _ q => wipe_out fun z => q (h j z)
theorem wipeR_ext {ρ ρ' : Rho} {vs : List Nat} (hl : ρ.length = ρ'.length) (h : ∀ j, j ∉ vs → ρ[j]? = ρ'[j]?) : wipeR ρ vs = wipeR ρ' vs := by
  refine List.ext_getElem? fun j => ?_
  by_cases q : j ∈ vs
  · have hin : ∀ r : Rho, (wipeR r vs)[j]? = if j < r.length then some none else none := fun r => by
      by_cases z : j < r.length
      · rw [if_pos z]
        have e : (wipeR r vs)[j]? = some ((wipeR r vs)[j]'(by rw [wipeR_len]; exact z)) := List.getElem?_eq_getElem _
        cases w : (wipeR r vs)[j]'(by rw [wipeR_len]; exact z) with
        | none => rw [e, w]
        | some o => rw [w] at e; exact absurd e (wipeR_in q)
      · rw [if_neg z, List.getElem?_eq_none (by rw [wipeR_len]; omega)]
    rw [hin, hin, hl]
  · rw [wipeR_out q, wipeR_out q]; exact h j q
theorem wipeR_sub {ρ : Rho} {vs vs1 : List Nat} (h : ∀ i ∈ vs1, i ∈ vs) : wipeR (wipeR ρ vs1) vs = wipeR ρ vs := wipeR_ext (wipeR_len ρ vs1) fun j q => wipeR_out fun z => q (h j z)
theorem lc2_read {g g1 : TG} {t t1 : Tgt} {src src1 : M (List PyData)} {mt mt1 : M Bool} {me : M PyData} {vs vs1 : List Nat} {n : Nat} {σ : St} {H : Hp} {Q : VK} (hn : σ.length = n) (ht : TgOk C.quiet (outs n vs) n g t) (ht1 : TgOk C.quiet (outs n vs1) n g1 t1) (hv : ∀ i ∈ vs1, i ∈ vs)
    (h : tO C (mComp2 src t mt src1 t1 mt1 me vs vs1) σ H Q) : tLc2 (tI C src) g (tT C.quiet mt) (tI C.quiet src1) g1 (tT C.quiet mt1) (tD C.quiet me) vs vs1 σ H Q := by
  obtain ⟨F, ρ, sr, p⟩ := h
  refine ⟨F, ρ, sr, p.part fun xs ρ1 F1 H1 J e1 q1 g1' s1 wk => fun D hD => ?_⟩
  have q1 := q1.on stb_O g1'
  obtain ⟨accF, ρF, eF, hlF⟩ : ∃ accF ρF, lc2Go t mt src1 t1 mt1 me vs vs1 xs [] ρ1 = .ok accF ρF ∧ ρF.length = ρ1.length := by
    cases e : lc2Go t mt src1 t1 mt1 me vs vs1 xs [] ρ1 with
    | ok a r =>
      simp only [e] at q1
      split at q1
      · rename_i hz; exact ⟨a, r, rfl, hz⟩
      · exact q1.elim
    | _ => simp only [e] at q1; exact q1.elim
  simp only [eF, hlF, if_true] at q1
  have f1D : F1 D = none := s1.sub.free hD
  have nD1 : ¬ own (wipe σ vs) (wipeR ρ1 vs) D := fun z => by
    obtain ⟨_, u, hu⟩ := own.at (s1.wipes vs) z
    rw [hD] at hu; cases hu
  have sD : SR C.K F1 (upd H1 D (.lst [])) (wipe σ vs) (wipeR ρ1 vs) := (s1.fresh hD).wipes vs
  refine ⟨fun i m H' => m = xs.length - i ∧ i ≤ xs.length ∧ ∃ F' ρ' acc accV, SR C.K F' H' (wipe σ vs) (wipeR ρ' vs) ∧ Grow (own (wipe σ vs) (wipeR ρ1 vs)) (own (wipe σ vs) (wipeR ρ' vs)) F1 H1 F' H' ∧
    ¬ own (wipe σ vs) (wipeR ρ' vs) D ∧ F' D = none ∧ H' D = some (.lst accV) ∧ DVs C.K F' accV acc ∧ lc2Go t mt src1 t1 mt1 me vs vs1 (xs.drop i) acc ρ' = .ok accF ρF,
    ⟨xs.length, by simp, Nat.zero_le _, F1, ρ1, [], [], sD, Grow.fresh hD, nD1, f1D, upd_same, .nil, by rw [List.drop_zero]; exact eF⟩, ?_⟩
  rintro i m H' ⟨rfl, hil, F', ρ', acc, accV, s', gw, nD, fD, eD, dv, er⟩
  obtain ⟨w1, w2⟩ := wk F' H' i gw.ext s'.sub
  by_cases hlt : i < xs.length
  · obtain ⟨x, ex⟩ : ∃ x, xs[i] = x := ⟨_, rfl⟩
    obtain ⟨go, yl⟩ := w2 x (by rw [← ex]; simp [hlt])
    rw [List.drop_eq_getElem_cons hlt, ex] at er
    simp only [lc2Go] at er
    refine .inr ⟨go, fun H2 => ∃ F' ρ' acc accV, SR C.K F' H2 (wipe σ vs) (wipeR ρ' vs) ∧ Grow (own (wipe σ vs) (wipeR ρ1 vs)) (own (wipe σ vs) (wipeR ρ' vs)) F1 H1 F' H2 ∧
      ¬ own (wipe σ vs) (wipeR ρ' vs) D ∧ F' D = none ∧ H2 D = some (.lst accV) ∧ DVs C.K F' accV acc ∧ lc2Go t mt src1 t1 mt1 me vs vs1 (xs.drop (i + 1)) acc ρ' = .ok accF ρF, fun H2 h2 => ⟨xs.length - (i + 1), by omega, rfl, by omega, h2⟩, fun v H2 y => ?_⟩
    obtain ⟨F2, al⟩ := yl v H2 y
    cases et : t x (wipeR ρ' vs) with
    | none => simp only [et] at er; cases er
    | some ρ2 =>
      simp only [et] at er
      have st : SR C.K F2 H2 (wipe σ vs) (wipeR ρ' vs) ∧ Grow (own (wipe σ vs) (wipeR ρ' vs)) (own (wipe σ vs) (wipeR ρ' vs)) F' H' F2 H2 ∧ DV C.K F2 v x ∧ F2 D = none ∧ H2 D = some (.lst accV) := by
        cases al with
        | asis h => exact ⟨s', Grow.refl, h, fD, eD⟩
        | tup hp h =>
          have fp := s'.sub.free hp
          have ne := ne_of_none eD hp
          exact ⟨s'.laid hp, Grow.laid hp fp, .tup (.inl (.inl upd_same)) (h.upd fp), by rw [upd_ne ne]; exact fD, by rw [upd_ne ne]; exact eD⟩
      obtain ⟨s2, g2, dx, fD2, eD2⟩ := st
      refine ht v x (wipe σ vs) (wipeR ρ' vs) ρ2 F2 H2 _ (by rw [wipe_length]; exact hn) s2 dx et fun σ3 s3 o3 p3 => ?_
      have ew : wipe σ3 vs = wipe σ vs := by
        rw [← wipe_wipe σ vs]
        exact wipe_ext p3.1 fun j hj q => p3.2 j (mem_outs (by rw [wipe_length, hn] at hj; exact hj) q)
      have hn3 : σ3.length = n := by rw [p3.1, wipe_length]; exact hn
      have g3 : Grow (own (wipe σ vs) (wipeR ρ' vs)) (own σ3 ρ2) F' H' F2 H2 := g2.less o3
      have nD3 : ¬ own σ3 ρ2 D := fun z => nD (o3 D z)
      refine ⟨ew, F2, ρ2, s3, ?_⟩
      have stay : ∀ {Fa Ha Fb Hb : Hp} {o1 o2 : Addr → Prop} {l : List V}, Grow o1 o2 Fa Ha Fb Hb → ¬ o1 D → Fa D = none → Ha D = some (.lst l) → Fb D = none ∧ Hb D = some (.lst l) ∧ ¬ o2 D := fun {Fa Ha Fb Hb o1 o2 l} g n f h => by
        refine ⟨?_, g.keep D _ h n, fun z => ?_⟩
        · cases q : Fb D with
          | none => rfl
          | some u =>
            rcases g.new D (by rw [q]; simp) with z | z | z
            · exact absurd f z
            · rw [h] at z; cases z
            · exact absurd z n
        · rcases g.ows D z with y | y
          · exact n y
          · rw [h] at y; cases y
      have back : ∀ {F5 H5 : Hp} {ρ5 : Rho}, SR C.K F5 H5 σ3 ρ5 → SR C.K F5 H5 (wipe σ vs) (wipeR ρ5 vs) := fun {F5 H5 ρ5} s => by
        have := s.wipes vs
        rw [ew] at this
        exact this
      have lessW : ∀ {ρ5 : Rho} {b : Addr}, own (wipe σ vs) (wipeR ρ5 vs) b → own σ3 ρ5 b := fun {ρ5 b} z => by
        rw [← ew] at z
        exact (own.wipes z).1
      cases emt : mt ρ2 with
      | bad => simp only [emt] at er; cases er
      | ex x r => simp only [emt] at er; cases er
      | ok k ρ3 =>
        simp only [emt] at er
        intro F3 H3 k' g4 s4 ek
        subst ek
        obtain ⟨fD4, eD4, nD4⟩ := stay g4 nD3 fD2 eD2
        cases k' with
        | false =>
          simp only at er
          rw [if_neg Bool.false_ne_true]
          exact ⟨F3, ρ3, acc, accV, back s4, (gw.trans (g3.trans g4)).less fun b z => lessW z, fun z => nD4 (lessW z), fD4, eD4, DVs.mono (g3.trans g4).ext dv, er⟩
        | true =>
          simp only at er
          rw [if_pos rfl]
          refine ⟨F3, ρ3, s4, ?_⟩
          cases es1 : src1 ρ3 with
          | bad => simp only [es1] at er; cases er
          | ex x r => simp only [es1] at er; cases er
          | ok ys ρ4 =>
            simp only [es1] at er
            intro F4 H4 J1 g5 s5 wk1
            obtain ⟨fD5, eD5, nD5⟩ := stay g5 nD4 fD4 eD4
            cases ei : lcGo t1 mt1 me vs1 ys acc ρ4 with
            | bad => simp only [ei] at er; cases er
            | ex x r => simp only [ei] at er; cases er
            | ok accI ρI =>
              simp only [ei] at er
              have gl := g3.trans (g4.trans g5)
              have l1 : ∀ b, own (wipe σ3 vs1) (wipeR ρ4 vs1) b → own σ3 ρ4 b := fun b z => (own.wipes z).1
              refine lc_in (ow0 := own (wipe σ vs) (wipeR ρ1 vs)) (F1 := F1) (H1 := H1) (acc := acc) (accI := accI) (ρ := ρ4) (ρI := ρI) (xs := ys) (F := F4) (accV := accV) hn3 ht1 hD (s5.wipes vs1) ((gw.trans gl).less l1) (fun z => nD5 (l1 D z)) fD5 eD5 (DVs.mono gl.ext dv) wk1 ei fun F6 H6 accV' s6 g6 nD6 fD6 eD6 dv6 => ?_
              have s7 := s6.wipes vs
              rw [wipe_sub hv, wipeR_sub hv, ew] at s7
              have l2 : ∀ b, own (wipe σ vs) (wipeR ρI vs) b → own (wipe σ3 vs1) (wipeR ρI vs1) b := fun b z => by
                rw [← ew, ← wipe_sub hv, ← wipeR_sub hv] at z
                exact (own.wipes z).1
              exact ⟨F6, ρI, accI, accV', s7, g6.less l2, fun z => nD6 (l2 D z), fD6, eD6, dv6, er⟩
  · have ei : i = xs.length := by omega
    subst ei
    rw [List.drop_length] at er
    simp only [lc2Go, M.ret] at er
    cases er
    obtain ⟨sf, gf⟩ := s1.rest s' hlF gw
    refine .inl ⟨w1 (Nat.le_refl _), q1 F' H' (.ref D) gf sf ⟨⟨D, accV, rfl, fD, eD, dv⟩, fun _ a ea => ?_⟩⟩
    cases ea
    refine ⟨fun z => ?_, .inl hD⟩
    rcases gf.ows D z with y | y
    · obtain ⟨_, u, hu⟩ := own.at s1 y
      rw [hD] at hu; cases hu
    · obtain ⟨j, o, e1, e2, e3⟩ := z
      by_cases q : j ∈ vs
      · obtain ⟨_, u, hu⟩ := own.at s1 ⟨j, o, restR_in q e1, e2, e3⟩
        rw [hD] at hu; cases hu
      · rw [restR_out q] at e1
        exact nD ⟨j, o, by rw [wipeR_out q]; exact e1, e2, by rw [wipe_out q]; exact e3⟩
theorem o_comp2 {elt tg iter tg1 iter1 : Expr} {ifs ifs1 : List Expr} {g g1 : TG} {t t1 : Tgt} {src src1 : M (List PyData)} {mt mt1 : M Bool} {me : M PyData} {n : Nat} {scope : Scope} {own : List (Str × Nat)} {vs1 : List Nat} (hc : X.calm = true) (hN : X.N.Nodup) (hi : PI X tg iter (tI C src)) (ok : BlkOk X.N X.env.scope scope own)
    (hg : ∀ (s : Shared) (H : Hp) (D : Addr) (cl : List (Str × Addr)) (fp : List Addr), PG (X.blk s H scope (compEnvC scope cl D X.env) fp) tg g) (htg : TgOk C.quiet (outs n (own.map (·.2))) n g t)
    (ht : ∀ (s : Shared) (H : Hp) (D : Addr) (cl : List (Str × Addr)) (fp : List Addr), PTs (X.blk s H scope (compEnvC scope cl D X.env) fp) ifs (tT C.quiet mt))
    (hi1 : ∀ (s : Shared) (H : Hp) (D : Addr) (cl : List (Str × Addr)) (fp : List Addr), PI (X.blk s H scope (compEnvC scope cl D X.env) fp) tg1 iter1 (tI C.quiet src1))
    (hg1 : ∀ (s : Shared) (H : Hp) (D : Addr) (cl : List (Str × Addr)) (fp : List Addr), PG (X.blk s H scope (compEnvC scope cl D X.env) fp) tg1 g1) (htg1 : TgOk C.quiet (outs n vs1) n g1 t1)
    (ht1 : ∀ (s : Shared) (H : Hp) (D : Addr) (cl : List (Str × Addr)) (fp : List Addr), PTs (X.blk s H scope (compEnvC scope cl D X.env) fp) ifs1 (tT C.quiet mt1))
    (he : ∀ (s : Shared) (H : Hp) (D : Addr) (cl : List (Str × Addr)) (fp : List Addr), PE (X.blk s H scope (compEnvC scope cl D X.env) fp) elt (tD C.quiet me)) (hv : ∀ i ∈ vs1, i ∈ own.map (·.2) := by decide) (hL : X.N.length = n := by rfl) (hs : ∀ x, foldedSetIterable iter X.env x = pure x := by intro _; rfl) (hs1 : ∀ env x, foldedSetIterable iter1 env x = pure x := by intro _ _; rfl) :
    PE X (.ListComp elt [⟨tg, iter, ifs, 0⟩, ⟨tg1, iter1, ifs1, 0⟩] scope pos) (tO C (mComp2 src t mt src1 t1 mt1 me (own.map (·.2)) vs1)) :=
  ⟨fun pins s σ H Q I q => (pe_lc2 hc hN hi ok hv hg ht hi1 hg1 ht1 he hs hs1).run pins s σ H Q I (lc2_read (by rw [I.len, hL]) htg htg1 hv q)⟩
end
end Eg
namespace Eg
open PySem L2 PySem.W PySem.SeqAt
theorem _root_.L2.Room.units1 {k : Nat} {A : Around} (r : Room k A) : A.units + 1 < cLine := by have := r.un; omega
def LenOk (ms : M (List Arg)) (n : Nat) : Prop := ∀ ρ as ρ', ms ρ = .ok as ρ' → as.length = n
theorem ll_nil : LenOk mNil 0 := fun _ _ _ e => by cases e; rfl
theorem ll_cons {ma : M Arg} {ms : M (List Arg)} {n : Nat} (h : LenOk ms n) : LenOk (mCons ma ms) (n + 1) := fun ρ as ρ' e => by
  simp only [mCons, M.bind] at e
  cases e1 : ma ρ with
  | bad => rw [e1] at e; cases e
  | ex _ _ => rw [e1] at e; cases e
  | ok a ρ1 =>
    rw [e1] at e
    simp only at e
    cases e2 : ms ρ1 with
    | bad => rw [e2] at e; cases e
    | ex _ _ => rw [e2] at e; cases e
    | ok as' ρ2 =>
      rw [e2] at e
      cases e
      rw [List.length_cons, h _ _ _ e2]
theorem b_len : bootBuiltins "len" = some (.builtin "len") := by decide +kernel
theorem b_repr : bootBuiltins "repr" = some (.builtin "repr") := by decide +kernel
theorem b_sorted : bootBuiltins "sorted" = some (.builtin "sorted") := by decide +kernel
theorem b_min : bootBuiltins "min" = some (.builtin "min") := by decide +kernel
theorem b_max : bootBuiltins "max" = some (.builtin "max") := by decide +kernel
theorem b_list : bootBuiltins "list" = some (.type "list") := by decide +kernel
theorem b_tuple : bootBuiltins "tuple" = some (.type "tuple") := by decide +kernel
theorem b_int : bootBuiltins "int" = some (.type "int") := by decide +kernel
theorem blk_look {scope : Scope} {env : Env} {sc : Scope} {x : Str} {k : NameKind} (hs : env.scope = sc) (h : (scope.names.map fun (n, k) => if (k == .free && sc.kind == .function && sc.names.lookup n == some .cell) then (n, .cell) else (n, k)).lookup x = some k) :
    (relabel scope env).names.lookup x = some k := by subst hs; exact h
theorem blk_gl {X : Cx} {scope : Scope} {env : Env} {sc : Scope} {x : Str} (hX : X.env.scope = relabel scope env) (hs : env.scope = sc) (h : (scope.names.map fun (n, k) => if (k == .free && sc.kind == .function && sc.names.lookup n == some .cell) then (n, .cell) else (n, k)).lookup x = some .globalImplicit) : Gl X x := by
  show X.env.scope.names.lookup x = _
  rw [hX]
  exact blk_look hs h
end Eg
namespace Eg
open PySem L2 PySem.W PySem.SeqAt PySem.Spec PyProof.Rows
/-! ## the law's call from the top -/
theorem quietTop {P : Program} {w : World} {H : Hp} {s s' : Shared} {e : Value} (h : L2.CX P w [] H s (fun _ _ _ => False) e s') : False := by
  obtain ⟨_, _, _, _, _, _, _, _, _, _, _, _, z⟩ := h
  exact z
/-- a heap that tracks the script and nothing else -/
theorem script_heap {P : Program} {w : World} {K : PySem.W.Frag} {h : Heap} {a : Addr} {vs : List Value} {ns : List Int} (KX : K.In h) (ha : h.get? a = some { cls := .type "list", data := .seq vs.toArray }) (hi : IntsAre vs ns) (hl : ns.length ≤ sizeLine) :
    ∃ H : Hp, SqL K H a (ns.map V.int) ∧ HOk P w H h ∧ ∀ b, H b = none ∨ (b = a ∧ K.lookup a = none ∧ ∃ o, H b = some (.frz o (.lst (ns.map V.int)))) := by
  have rv := vals_ints hi
  cases hk : K.lookup a with
  | some o =>
    refine ⟨fun _ => none, .inr ⟨o, vs.toArray, ?_⟩, fun b u z => (by cases z), fun b => .inl rfl⟩
    have same := KX a o hk
    rw [ha] at same
    cases same
    exact ⟨_, hk, rfl, rfl, rfl, by simpa [hi.length] using hl, by simpa using rv⟩
  | none =>
    refine ⟨upd (fun _ => none) a (.frz { cls := .type "list", data := .seq vs.toArray } (.lst (ns.map V.int))), .inl (.inr ⟨_, upd_same⟩), fun b u z => ?_, fun b => ?_⟩
    · by_cases q : b = a
      · subst q
        rw [upd_same] at z
        cases z
        exact ⟨ha, by simpa using hl, vs, _, rv, ha⟩
      · rw [upd_ne q] at z; cases z
    · by_cases q : b = a
      · subst q; exact .inr ⟨rfl, rfl, _, upd_same⟩
      · exact .inl (upd_ne q)
theorem law_top {P : Program} {w : World} {K : PySem.W.Frag} {mg mb : Str → Option Value} {k : Nat} {fa a : Addr} {fd : FuncData} {x : Str} {sp : Sp} {sT : Shared} {vs : List Value} {ns : List Int}
    (KX : K.In sT.heap) (hns : sT.heap.Ns mainGlobals mg) (hb : sT.heap.Ns builtinsNs mb) (hbb : ∀ x : Str, x ≠ "__name__" → mb x = bootBuiltins x) (hlim : sT.heap.NoLimit) (hgen : sT.gens = #[])
    (ha : sT.heap.get? a = some { cls := .type "list", data := .seq vs.toArray }) (hi : IntsAre vs ns) (hr : Room k callerA) (hl : ns.length ≤ sizeLine)
    (F : ∀ base : Heap, FnG P w K mg base (L2.CX P w) k fa fd [x] sp) (hbind : ∀ (s : Shared) (u : Value), BindsTo s fd ⟨[u], []⟩ [(x, u)])
    (hsp : ∀ H : Hp, SqL K H a (ns.map V.int) → sp [.ref a] H (fun v _ => v = .bl true) fun _ _ _ => False) :
    codeAny (model P w) callerA (.call (.ref fa) ⟨[.ref a], []⟩) (fun r s' => r = .ok (.ret (.bool true)) ∧ OldK sT.heap s'.heap ∧ s'.os = sT.os ∧ AllBare s'.gens) sT := by
  obtain ⟨H, sq, ok, only⟩ := script_heap (P := P) (w := w) KX ha hi hl
  -- an object that isn't the script's is in the ground
  have up : ∀ {b : Addr} {o : Obj}, sT.heap.get? b = some o → H b = none → (hidT sT.heap H).get? b = some o := fun e n => hidT_get e n
  have dictUp : ∀ {b : Addr} {m : Str → Option Value}, sT.heap.Ns b m → (hidT sT.heap H).Ns b m := fun {b m} ⟨o, es, ep, e, d, r⟩ => by
    rcases only b with z | ⟨z, _⟩
    · exact ⟨o, es, ep, up e z, d, r⟩
    · subst z
      rw [ha] at e
      cases e
      exact absurd (show Data.seq _ _ = Data.dict es ep from d) (by intro q; cases q)
  have kIn : K.In (hidT sT.heap H) := fun b o e => by
    rcases only b with z | ⟨z, z2, _⟩
    · exact up (KX b o e) z
    · subst z; rw [z2] at e; cases e
  obtain ⟨ml, l1, l2⟩ := hlim
  have md : Mod K mg (hidT sT.heap H) := ⟨kIn, dictUp hns, ⟨mb, dictUp hb, hbb⟩, ml, dictUp l1, l2⟩
  have e0 : Env0 P w K mg (hidT sT.heap H) callerA [] sT H := ⟨rfl, md, fun b o e => of_hidT e, Nat.le_of_eq (hidT_size _ _), trivial, fun b z => (by cases z), ok, .of_eq hgen⟩
  refine codeAny_mono ((F _).run callerA [] sT H ⟨[.ref a], []⟩ [.ref a] [.ref a] _ _ rfl hr e0 (hbind sT (.ref a)) (.cons rfl .nil) (hsp H sq)) fun r s' z => ?_
  match r, z with
  | .error e, z => exact (quietTop z).elim
  | .ok (.ret u), ⟨v, H', os, bare, un, ok', ru, ev⟩ =>
    have ev : v = .bl true := ev
    subst ev
    obtain rfl : u = Value.bool true := ru
    refine ⟨rfl, .of_keep fun b o e => ?_, os, bare⟩
    rcases only b with z | ⟨_, _, ob, z⟩
    · exact un.keep b o e z (fun y => by cases y) (fun y => by cases y)
    · have now := (ok' b _ (un.frzs b ob _ z)).1
      have was := (ok b _ z).1
      rw [e] at was
      cases was
      exact now
theorem law_walk {l : PySem.W.OpenLaw} {n k m : Nat} {q : Program} {loose : List Str} {XP : (Str → Option Value) → Heap → Prop} {YP : World → Heap → Prop} {d : DefRec} {K : Params → PySem.W.Frag} {x : Str} {body : M Out} {XR : Hp → Hp → Value → Option Addr → Xc → Prop}
    (hm1 : l.most = some n) (hm2 : n ≤ sizeLine) (hdf : d.params.defaults = []) (hr : Room k callerA) (hY : ∀ (w : World) (h : Heap), YP w h → (K w.params).In h)
    (F : ∀ (w : World) (mg : Str → Option Value) (fa : Addr) (hp : Heap), (K w.params).In hp → hp.Ns mainGlobals mg → mg d.name = some (.ref fa) →
      ∃ fd : FuncData, (∀ (s : Shared) (u : Value), BindsTo s fd ⟨[u], []⟩ [(x, u)]) ∧ ∀ base : Heap, FnG l.prog w (K w.params) mg base (L2.CX l.prog w) k fa fd [x] (spI (K w.params) XR 1 (fnM m [false] body)))
    (true_ : ∀ ns : List Int, ns.length ≤ n → ∃ ρ, fnM m [false] body [some (.sc ns)] = .ok (.sh (.bool true)) ρ) :
    PySem.W.WalkO q loose XP YP l.row.toRowW d [] (fun f us => PySem.call f us) := by
  refine Att.attach_call hm1 hdf fun w sA sT mg mb fa o pm cd doc a vs ns G Y h1 h2 h3 hmg hobj hints hlen hg => ?_
  obtain ⟨fd, hb, hF⟩ := F w mg fa _ (hY w _ Y) G.T.g hmg
  refine law_top (hY w _ Y) G.T.g G.T.b G.T.builtins G.T.nolimit hg hobj hints hr (Nat.le_trans hlen hm2) hF hb fun H sq => ⟨rfl, H, [.sc ns], ⟨Same.refl _, rfl, fun i o h => ?_, fun i j o o' b ne h io => ?_⟩, ?_⟩
  · match i, h with
    | 0, h => cases h; exact ⟨_, rfl, a, rfl, sq⟩
  · match i, h with
    | 0, h => cases h; cases io
  · obtain ⟨ρ, e⟩ := true_ ns hlen
    show PostE _ _ _ _ _ _ _ (fnM m [false] body [some (.sc ns)])
    rw [e]
    intro F' H' v _ _ r
    have r := r.1
    cases r
    rfl
end Eg
namespace Eg
open PySem L2 PySem.W PySem.SeqAt
/-! ## what a term comes to: rules for terms that stand at a state -/
def Res.go {α β : Type} (x : Res α) (f : α → M β) : Res β := match x with
  | .ok a ρ => f a ρ
  | .ex x ρ => .ex x ρ
  | .bad => .bad
def Res.sq (x : Res Out) (n : M Out) : Res Out := match x with
  | .ok .nx ρ => n ρ
  | .ok (.rt r) ρ => .ok (.rt r) ρ
  | .ok .bk ρ => .ok .bk ρ
  | .ok .ct ρ => .ok .ct ρ
  | .ex x ρ => .ex x ρ
  | .bad => .bad
def Res.opt {α : Type} (x : Option α) (ρ : Rho) : Res α := match x with
  | some a => .ok a ρ
  | none => .bad
def Res.fin (io : List Bool) (x : Res Out) : Res OD := match x with
  | .ok (.rt r) ρ' => .ok r (keepIo io ρ')
  | .ok .nx ρ' => .ok (.sh .none) (keepIo io ρ')
  | .ex x ρ' => .ex x (keepIo io ρ')
  | _ => .bad
def slotD : Option (Option OD) → Option PyData
  | some (some (.sh d)) => some d
  | some (some (.ol xs)) => some (.list xs)
  | _ => none
section
variable {α β : Type} {ρ : Rho}
theorem v_bind (m : M α) (f : α → M β) : (m.bind f) ρ = (m ρ).go f := rfl
theorem v_go (a : α) (f : α → M β) : (Res.ok a ρ).go f = f a ρ := rfl
theorem v_ret (a : α) : M.ret a ρ = .ok a ρ := rfl
theorem v_get : M.get ρ = .ok ρ ρ := rfl
theorem v_lift (x : Option α) : M.lift x ρ = Res.opt x ρ := by cases x <;> rfl
theorem v_opt (a : α) : Res.opt (some a) ρ = .ok a ρ := rfl
theorem v_seq (m n : M Out) : sSeq m n ρ = (m ρ).sq n := by
  unfold sSeq M.bind Res.sq
  cases m ρ with
  | ok o r => cases o <;> rfl
  | _ => rfl
theorem v_sqn (n : M Out) : (Res.ok Out.nx ρ).sq n = n ρ := rfl
theorem v_sqr (r : OD) (n : M Out) : (Res.ok (Out.rt r) ρ).sq n = .ok (.rt r) ρ := rfl
theorem v_sqb (n : M Out) : (Res.ok Out.bk ρ).sq n = .ok .bk ρ := rfl
theorem v_sqc (n : M Out) : (Res.ok Out.ct ρ).sq n = .ok .ct ρ := rfl
theorem v_set (i : Nat) (m : M OD) : sSet i m ρ = (m ρ).go fun o => fun ρ => .ok .nx (ρ.set i (some o)) := rfl
theorem v_sret (m : M OD) : sRet m ρ = (m ρ).go fun r => M.ret (.rt r) := rfl
theorem v_if (t : M Bool) (a b : M Out) : sIf t a b ρ = (t ρ).go fun k => if k = true then a else b := rfl
theorem v_mif (t : M Bool) (a b : M α) : mIf t a b ρ = (t ρ).go fun k => if k = true then a else b := rfl
theorem v_next : sNext ρ = .ok .nx ρ := rfl
theorem v_expr (m : M PyData) : sExpr m ρ = (m ρ).go fun _ => M.ret .nx := rfl
theorem v_dat (d : PyData) : res1 ρ (.dat d) = some d := rfl
theorem v_slot (i : Nat) : res1 ρ (.slot i) = slotD ρ[i]? := rfl
theorem v_sd (d : PyData) : slotD (some (some (.sh d))) = some d := rfl
theorem v_so (d : List PyData) : slotD (some (some (.ol d))) = some (.list d) := rfl
def m2k {γ : Type} (g : PyData → PyData → Option γ) (a b : Arg) : M γ := fun ρ => Res.opt ((res1 ρ a).bind fun x => (res1 ρ b).bind fun y => g x y) ρ
theorem v_m2 {γ : Type} (g : PyData → PyData → Option γ) (ma mb : M Arg) : m2 g ma mb ρ = (ma ρ).go fun a => mb.bind fun b => m2k g a b := by
  refine congrArg (Res.go (ma ρ)) (funext fun a => funext fun r => ?_)
  exact congrArg (Res.go (mb r)) (funext fun b => funext fun r2 => v_lift _)
theorem v_m2k {γ : Type} (g : PyData → PyData → Option γ) (a b : Arg) : m2k g a b ρ = Res.opt ((res1 ρ a).bind fun x => (res1 ρ b).bind fun y => g x y) ρ := rfl
def m1k {γ : Type} (g : PyData → Option γ) (a : Arg) : M γ := fun ρ => Res.opt ((res1 ρ a).bind fun x => g x) ρ
theorem v_m1 {γ : Type} (g : PyData → Option γ) (ma : M Arg) : m1 g ma ρ = (ma ρ).go fun a => m1k g a :=
  congrArg (Res.go (ma ρ)) (funext fun a => funext fun r => v_lift _)
theorem v_m1k {γ : Type} (g : PyData → Option γ) (a : Arg) : m1k g a ρ = Res.opt ((res1 ρ a).bind fun x => g x) ρ := rfl
def mLk {γ : Type} (g : List PyData → Option γ) (as : List Arg) : M γ := fun ρ => Res.opt ((resL ρ as).bind fun x => g x) ρ
theorem v_mL {γ : Type} (g : List PyData → Option γ) (ms : M (List Arg)) : mL g ms ρ = (ms ρ).go fun as => mLk g as :=
  congrArg (Res.go (ms ρ)) (funext fun a => funext fun r => v_lift _)
theorem v_mLk {γ : Type} (g : List PyData → Option γ) (as : List Arg) : mLk g as ρ = Res.opt ((resL ρ as).bind fun x => g x) ρ := rfl
theorem v_rl0 : resL ρ [] = some [] := rfl
theorem v_rl1 (a : Arg) (as : List Arg) : resL ρ (a :: as) = (res1 ρ a).bind fun x => (resL ρ as).bind fun y => some (x :: y) := rfl
theorem v_nil : mNil ρ = .ok [] ρ := rfl
theorem v_cons (ma : M Arg) (ms : M (List Arg)) : mCons ma ms ρ = (ma ρ).go fun a => ms.bind fun as => M.ret (a :: as) := rfl
theorem v_fix {γ : Type} (g : List PyData → Option γ) (ms : M (List Arg)) : mFix g ms ρ = (ms ρ).go fun as => M.lift (do g (← fixL as)) := rfl
theorem v_fix0 : fixL [] = some [] := rfl
theorem v_fix1 (d : PyData) (as : List Arg) : fixL (.dat d :: as) = (fixL as).map (d :: ·) := rfl
theorem v_fzs (d : PyData) : fz (.sh d) = M.ret d := rfl
theorem v_fzo (d : List PyData) : fz (.ol d) = M.ret (.list d) := rfl
theorem v_ab (b : Bool) : asBool (.bool b) = M.ret b := rfl
theorem v_not (m : M Bool) : mNot m ρ = (m ρ).go fun b => M.ret (!b) := rfl
theorem v_and (a b : M Bool) : mAnd a b ρ = (a ρ).go fun k => if k = true then b else M.ret false := rfl
theorem v_or (a b : M Bool) : mOr a b ρ = (a ρ).go fun k => if k = true then M.ret true else b := rfl
theorem v_ai (i : Int) : asInt (.int i) = M.ret i := rfl
theorem v_fn (m : Nat) (io : List Bool) (b : M Out) : fnM m io b ρ = Res.fin io (b (ρ ++ List.replicate m none)) := by
  unfold fnM Res.fin
  cases b (ρ ++ List.replicate m none) with
  | ok o r => cases o <;> rfl
  | _ => rfl
theorem v_fin (io : List Bool) (r : OD) : Res.fin io (.ok (.rt r) ρ) = .ok r (keepIo io ρ) := rfl
theorem v_fin2 (io : List Bool) : Res.fin io (.ok .nx ρ) = .ok (.sh .none) (keepIo io ρ) := rfl
theorem v_kp0 (ρ : Rho) : keepIo [] ρ = [] := rfl
theorem v_kpt (io : List Bool) (o : Option OD) (ρ : Rho) : keepIo (true :: io) (o :: ρ) = o :: keepIo io ρ := rfl
theorem v_kpf (io : List Bool) (o : Option OD) (ρ : Rho) : keepIo (false :: io) (o :: ρ) = none :: keepIo io ρ := rfl
/-- slots -/
def slotO (x : Option (Option OD)) : Option OD := x.join
theorem v_slo (o : OD) : slotO (some (some o)) = some o := rfl
theorem v_mslot (i : Nat) : mSlot i ρ = Res.opt ((slotO ρ[i]?).map fun _ => .slot i) ρ := by
  unfold mSlot slotO
  split
  · rename_i h; rw [h]; rfl
  · rename_i h
    cases q : ρ[i]? with
    | none => rfl
    | some o => cases o with
      | none => rfl
      | some o => exact absurd q (h o)
def nameK (i : Nat) (x : Option (Option OD)) : M PyData := fun ρ => match x with
  | some (some (.sh d)) => .ok d ρ
  | some (some (.ol xs)) => .ok (.list xs) (ρ.set i (some (.sh (.list xs))))
  | _ => .bad
theorem v_name (i : Nat) : mName i ρ = nameK i ρ[i]? ρ := by
  unfold mName nameK
  cases ρ[i]? with
  | none => rfl
  | some o => cases o with
    | none => rfl
    | some o => cases o <;> rfl
theorem v_nms (i : Nat) (d : PyData) : nameK i (some (some (.sh d))) ρ = .ok d ρ := rfl
theorem v_nmo (i : Nat) (d : List PyData) : nameK i (some (some (.ol d))) ρ = .ok (.list d) (ρ.set i (some (.sh (.list d)))) := rfl
def takeK (i : Nat) (x : Option (Option OD)) : M OD := fun ρ => match x with
  | some (some (.sc _)) => .bad
  | some (some o) => .ok o (ρ.set i none)
  | _ => .bad
theorem v_take (i : Nat) : mTake i ρ = takeK i ρ[i]? ρ := by
  unfold mTake takeK
  cases ρ[i]? with
  | none => rfl
  | some o => cases o with
    | none => rfl
    | some o => cases o <;> rfl
theorem v_tks (i : Nat) (d : PyData) : takeK i (some (some (.sh d))) ρ = .ok (.sh d) (ρ.set i none) := rfl
theorem v_tko (i : Nat) (d : List PyData) : takeK i (some (some (.ol d))) ρ = .ok (.ol d) (ρ.set i none) := rfl
def hasK {γ : Type} (x : Option (Option OD)) (m : M γ) : M γ := fun ρ => match x with
  | some (some _) => m ρ
  | _ => .bad
theorem v_has {γ : Type} (i : Nat) (m : M γ) : mHas i m ρ = hasK ρ[i]? m ρ := by
  unfold mHas hasK
  cases ρ[i]? with
  | none => rfl
  | some o => cases o <;> rfl
theorem v_hask {γ : Type} (o : OD) (m : M γ) : hasK (some (some o)) m ρ = m ρ := rfl
def dgO (x : Option (Option OD)) (k : Key) : M PyData := fun ρ => match x with
  | some (some (.od kvs)) => Res.opt (dGet kvs k) ρ
  | _ => .bad
def dgk (i : Nat) (kd : PyData) : M PyData := fun ρ => match keyD kd with
  | some k => dgO ρ[i]? k ρ
  | none => .bad
theorem v_dget (i : Nat) (mk : M PyData) : mDGet i mk ρ = (mk ρ).go (dgk i) := by
  refine congrArg (Res.go (mk ρ)) (funext fun a => funext fun r => ?_)
  unfold dgk dgO
  cases Eg.keyD a with
  | none => rfl
  | some k =>
    cases q : r[i]? with
    | none => rfl
    | some o => cases o with
      | none => rfl
      | some o => cases o with
        | od kvs =>
          show (match dGet kvs k with | some d => Res.ok d r | none => Res.bad) = Res.opt (dGet kvs k) r
          cases dGet kvs k <;> rfl
        | _ => rfl
theorem v_dgk (i : Nat) (x : Str) : dgk i (.str x) ρ = dgO ρ[i]? (.inr x) ρ := rfl
theorem v_dgo (kvs : List (Key × PyData)) (k : Key) : dgO (some (some (.od kvs))) k ρ = Res.opt (dGet kvs k) ρ := rfl
def putO (x : Option (Option OD)) (i : Nat) (k : Key) (d : PyData) : M Out := fun ρ => match x with
  | some (some (.od kvs)) => if kvs.length < sizeLine then .ok .nx (ρ.set i (some (.od (dPut kvs k d)))) else .bad
  | _ => .bad
def putk (i : Nat) (d kd : PyData) : M Out := fun ρ => match keyD kd with
  | some k => putO ρ[i]? i k d ρ
  | none => .bad
theorem v_put (i : Nat) (mv mk : M PyData) : sPut i mv mk ρ = (mv ρ).go fun d => mHas i (mk.bind (putk i d)) := by
  refine congrArg (Res.go (mv ρ)) (funext fun d => congrArg (mHas i) (funext fun r => congrArg (Res.go (mk r)) (funext fun a => funext fun r2 => ?_)))
  unfold putk putO
  cases Eg.keyD a with
  | none => rfl
  | some k =>
    cases q : r2[i]? with
    | none => rfl
    | some o => cases o with
      | none => rfl
      | some o => cases o <;> rfl
theorem v_putk (i : Nat) (x : Str) (d : PyData) : putk i d (.str x) ρ = putO ρ[i]? i (.inr x) d ρ := rfl
theorem v_puto (i : Nat) (k : Key) (d : PyData) (kvs : List (Key × PyData)) : putO (some (some (.od kvs))) i k d ρ = if kvs.length < sizeLine then .ok .nx (ρ.set i (some (.od (dPut kvs k d)))) else .bad := rfl
def apO (x : Option (Option OD)) (i : Nat) (d : PyData) : M PyData := fun ρ => match x with
  | some (some (.ol xs)) => if xs.length < sizeLine then .ok .none (ρ.set i (some (.ol (xs ++ [d])))) else .bad
  | _ => .bad
theorem v_app (i : Nat) (m : M PyData) : mAppend i m ρ = (m ρ).go fun d => fun ρ => apO ρ[i]? i d ρ := by
  refine congrArg (Res.go (m ρ)) (funext fun a => funext fun r => ?_)
  unfold apO
  cases r[i]? with
  | none => rfl
  | some o => cases o with
    | none => rfl
    | some o => cases o <;> rfl
theorem v_apo (i : Nat) (d : PyData) (xs : List PyData) : apO (some (some (.ol xs))) i d ρ = if xs.length < sizeLine then .ok .none (ρ.set i (some (.ol (xs ++ [d])))) else .bad := rfl
def olK {γ : Type} (x : Option (Option OD)) (m : M γ) : M γ := fun ρ => match x with
  | some (some (.ol _)) => m ρ
  | _ => .bad
theorem v_ol {γ : Type} (i : Nat) (m : M γ) : mOl i m ρ = olK ρ[i]? m ρ := by
  unfold mOl isOl olK
  cases ρ[i]? with
  | none => rfl
  | some o => cases o with
    | none => rfl
    | some o => cases o <;> rfl
theorem v_olk {γ : Type} (xs : List PyData) (m : M γ) : olK (some (some (.ol xs))) m ρ = m ρ := rfl
/-! calls -/
def coR (i : Nat) (ρ : Rho) : Res OD → Res OD
  | .ok r ρa => .ok r (ρ.set i (ρa[0]?.join))
  | .ex x ρa => .ex x (ρ.set i (ρa[0]?.join))
  | .bad => .bad
def coO (x : Option (Option OD)) (i : Nat) (f : Fn) (os : Option (List OD)) : M OD := fun ρ => match x, os with
  | some (some o), some os => if o.isO = true then coR i ρ (f ((o :: os).map some)) else .bad
  | _, _ => .bad
def coK (f : Fn) : List Arg → M OD
  | .slot i :: as => fun ρ => coO ρ[i]? i f (argsS ρ as) ρ
  | _ => M.bad
theorem v_callO (f : Fn) (ms : M (List Arg)) : mCallO f ms ρ = (ms ρ).go (coK f) := by
  refine congrArg (Res.go (ms ρ)) (funext fun as => funext fun r => ?_)
  cases as with
  | nil => rfl
  | cons a as =>
    cases a with
    | dat d => rfl
    | slot i =>
      show _ = coO r[i]? i f (argsS r as) r
      unfold coO
      simp only
      cases r[i]? with
      | none => rfl
      | some o => cases o with
        | none => rfl
        | some o =>
          cases argsS r as with
          | none => rfl
          | some os =>
            simp only
            split
            · cases f (List.map some (o :: os)) <;> rfl
            · rfl
theorem v_coK (f : Fn) (i : Nat) (as : List Arg) : coK f (.slot i :: as) ρ = coO ρ[i]? i f (argsS ρ as) ρ := rfl
theorem v_coO (i : Nat) (f : Fn) (kvs : List (Key × PyData)) (os : List OD) : coO (some (some (.od kvs))) i f (some os) ρ = coR i ρ (f (some (.od kvs) :: os.map some)) := rfl
theorem v_coR (i : Nat) (r : OD) (o : Option OD) (ρa : Rho) : coR i ρ (.ok r (o :: ρa)) = .ok r (ρ.set i o) := rfl
theorem v_as0 : argsS ρ [] = some [] := rfl
theorem v_asd (d : PyData) (as : List Arg) : argsS ρ (.dat d :: as) = (argsS ρ as).map (.sh d :: ·) := by
  show ((argsS ρ as).bind fun y => some (OD.sh d :: y)) = _
  cases argsS ρ as <;> rfl
def asO : Option (Option OD) → Option OD
  | some (some (.sh d)) => some (.sh d)
  | some (some (.sc ns)) => some (.sc ns)
  | _ => none
theorem v_ass (i : Nat) (as : List Arg) : argsS ρ (.slot i :: as) = (asO ρ[i]?).bind fun o => (argsS ρ as).map (o :: ·) := by
  have e : argS ρ (.slot i) = asO ρ[i]? := by
    have ea : argO ρ (.slot i) = (ρ[i]?).join := rfl
    unfold argS asO
    rw [ea]
    cases ρ[i]? with
    | none => rfl
    | some o => cases o with
      | none => rfl
      | some o => cases o <;> rfl
  show ((argS ρ (.slot i)).bind fun x => (argsS ρ as).bind fun y => some (x :: y)) = _
  rw [e]
  cases asO ρ[i]? <;> cases argsS ρ as <;> rfl
theorem v_asod (d : PyData) : asO (some (some (.sh d))) = some (.sh d) := rfl
theorem v_asoc (ns : List Int) : asO (some (some (.sc ns))) = some (.sc ns) := rfl
def caR (ρ : Rho) : Res OD → Res OD
  | .ok r _ => .ok r ρ
  | .ex x _ => .ex x ρ
  | .bad => .bad
def caO (f : Fn) (os : Option (List OD)) : M OD := fun ρ => match os with
  | some os => caR ρ (f (os.map some))
  | none => .bad
theorem v_call (f : Fn) (ms : M (List Arg)) : mCall f ms ρ = (ms ρ).go fun as => fun ρ => caO f (argsS ρ as) ρ := by
  refine congrArg (Res.go (ms ρ)) (funext fun as => funext fun r => ?_)
  unfold caO
  cases argsS r as with
  | none => rfl
  | some os =>
    simp only
    cases f (List.map some os) <;> rfl
theorem v_caO (f : Fn) (os : List OD) : caO f (some os) ρ = caR ρ (f (os.map some)) := rfl
theorem v_caR (r : OD) (ρa : Rho) : caR ρ (.ok r ρa) = .ok r ρ := rfl
/-! loops -/
def lpK (t : Tgt) (b : M Out) (xs : List PyData) (x : Res Out) : Res Out := match x with
  | .ok .nx ρ => sLoop t b xs ρ
  | .ok .ct ρ => sLoop t b xs ρ
  | .ok .bk ρ => .ok .nx ρ
  | .ok (.rt r) ρ => .ok (.rt r) ρ
  | .ex x ρ => .ex x ρ
  | .bad => .bad
def lpO (t : Tgt) (b : M Out) (xs : List PyData) : Option Rho → Res Out
  | some ρ => lpK t b xs (b ρ)
  | none => .bad
theorem v_for (s : M (List PyData)) (t : Tgt) (b : M Out) : sFor s t b ρ = (s ρ).go fun xs => sLoop t b xs := rfl
theorem v_lp0 (t : Tgt) (b : M Out) : sLoop t b [] ρ = .ok .nx ρ := rfl
theorem v_lp1 (t : Tgt) (b : M Out) (x : PyData) (xs : List PyData) : sLoop t b (x :: xs) ρ = lpO t b xs (t x ρ) := by
  simp only [sLoop]
  cases t x ρ with
  | none => rfl
  | some r =>
    simp only [lpO, M.bind, lpK]
    cases b r with
    | ok o r2 => cases o <;> rfl
    | _ => rfl
theorem v_lpO (t : Tgt) (b : M Out) (xs : List PyData) : lpO t b xs (some ρ) = lpK t b xs (b ρ) := rfl
theorem v_lpn (t : Tgt) (b : M Out) (xs : List PyData) : lpK t b xs (.ok .nx ρ) = sLoop t b xs ρ := rfl
theorem v_lpr (t : Tgt) (b : M Out) (xs : List PyData) (r : OD) : lpK t b xs (.ok (.rt r) ρ) = .ok (.rt r) ρ := rfl
theorem v_tn (i : Nat) (d : PyData) : tName i d ρ = some (ρ.set i (some (.sh d))) := rfl
theorem v_sil (ds : List PyData) : seqItems (.list ds) = M.ret ds := rfl
theorem v_sit (ds : List PyData) : seqItems (.tuple ds) = M.ret ds := rfl
theorem v_par (i j : Nat) (ma mb : M OD) : sPar i j ma mb ρ = (ma ρ).go fun u => mb.bind fun w => fun ρ => .ok .nx ((ρ.set i (some u)).set j (some w)) := rfl
theorem v_un (m : M PyData) (t : Tgt) : sUn m t ρ = (m ρ).go fun d => fun ρ => Res.opt ((t d ρ).map fun _ => Out.nx) ((t d ρ).getD ρ) := by
  unfold sUn M.bind Res.go
  cases m ρ with
  | ok a r => simp only; cases t a r <;> rfl
  | _ => rfl
end
end Eg
local macro_rules | `(tactic| simp? only [$ls,*]) => `(tactic| simp -implicitDefEqProofs only [Eg.v_bind, Eg.v_go, Eg.v_ret, Eg.v_get, Eg.v_lift, Eg.v_opt, Eg.v_seq, Eg.v_sqn, Eg.v_sqr, Eg.v_sqb, Eg.v_sqc, Eg.v_set, Eg.v_sret, Eg.v_if, Eg.v_mif, Eg.v_next, Eg.v_expr, Eg.v_dat, Eg.v_slot, Eg.v_sd, Eg.v_so, Eg.v_m2, Eg.v_m2k, Eg.v_m1, Eg.v_m1k, Eg.v_mL, Eg.v_mLk, Eg.v_rl0, Eg.v_rl1, Eg.v_nil, Eg.v_cons, Eg.v_fix, Eg.v_fix0, Eg.v_fix1, Eg.v_fzs, Eg.v_fzo, Eg.v_ab, Eg.v_not, Eg.v_and, Eg.v_or, Eg.v_ai, Eg.v_fn, Eg.v_fin, Eg.v_fin2, Eg.v_kp0, Eg.v_kpt, Eg.v_kpf, Eg.v_slo, Eg.v_mslot, Eg.v_name, Eg.v_nms, Eg.v_nmo, Eg.v_take, Eg.v_tks, Eg.v_tko, Eg.v_has, Eg.v_hask, Eg.v_dget, Eg.v_dgk, Eg.v_dgo, Eg.v_put, Eg.v_putk, Eg.v_puto, Eg.v_app, Eg.v_apo, Eg.v_ol, Eg.v_olk, Eg.v_callO, Eg.v_coK, Eg.v_coO, Eg.v_coR, Eg.v_as0, Eg.v_asd, Eg.v_ass, Eg.v_asod, Eg.v_asoc, Eg.v_call, Eg.v_caO, Eg.v_caR, Eg.v_for, Eg.v_lpO, Eg.v_lpn, Eg.v_lpr, Eg.v_tn, Eg.v_sil, Eg.v_sit, Eg.v_par, Eg.v_un, List.map_cons, List.map_nil, List.getElem?_cons_zero, List.getElem?_cons_succ, List.set_cons_zero, List.set_cons_succ, List.replicate_succ, List.replicate_zero, List.cons_append, List.nil_append, Option.bind_eq_bind, Option.bind_some, Option.map_some, if_true, Bool.false_eq_true, if_false, Bool.not_true, Bool.not_false, $ls,*])

namespace Eg
open PySem L2 PySem.W PySem.SeqAt
section
variable {ρ : Rho}
def scrK (x : Option (Option OD)) (l h : Option Int) : M OD := fun ρ => match x with
  | some (some (.sc ns)) => .ok (.ol (cutD (ns.map .int) l h)) ρ
  | _ => .bad
theorem v_scr (i : Nat) (l h : Option Int) : mScr i (M.ret l) (M.ret h) ρ = scrK ρ[i]? l h ρ := by
  unfold mScr scrK
  cases ρ[i]? with
  | none => rfl
  | some o => cases o with
    | none => rfl
    | some o => cases o <;> rfl
theorem v_pt63 (j : Int) : ((M.ret (PyData.int j)).bind fun d => (asInt d).bind fun i => M.ret (some i)) = M.ret (some j) := rfl
theorem v_scrk (ns : List Int) (l h : Option Int) : scrK (some (some (.sc ns))) l h ρ = .ok (.ol (cutD (ns.map .int) l h)) ρ := rfl
theorem v_disp (l : List (Str × M PyData)) : mDisp l ρ = (mPairs l ρ).go fun ds => M.ret (.od (dMerge [] ds)) := rfl
theorem v_ps0 : mPairs [] ρ = .ok [] ρ := rfl
theorem v_ps1 (k : Str) (m : M PyData) (r : List (Str × M PyData)) : mPairs ((k, m) :: r) ρ = (m ρ).go fun d => (mPairs r).bind fun ds => M.ret ((.inr k, d) :: ds) := rfl
def whK (mt : M Bool) (b : M Out) (n : Nat) (x : Res Out) : Res Out := match x with
  | .ok .nx ρ => sWhile mt b n ρ
  | .ok .ct ρ => sWhile mt b n ρ
  | .ok .bk ρ => .ok .nx ρ
  | .ok (.rt r) ρ => .ok (.rt r) ρ
  | .ex x ρ => .ex x ρ
  | .bad => .bad
theorem v_wh (mt : M Bool) (b : M Out) (n : Nat) : sWhile mt b (n + 1) ρ = (mt ρ).go fun k => if k = true then (fun ρ => whK mt b n (b ρ)) else sNext := by
  refine congrArg (Res.go (mt ρ)) (funext fun k => ?_)
  cases k with
  | false => rfl
  | true =>
    simp only [if_true]
    funext r
    unfold whK
    show Res.go (b r) _ = _
    unfold Res.go
    cases b r with
    | ok o r2 => cases o <;> rfl
    | _ => rfl
theorem v_whn (mt : M Bool) (b : M Out) (n : Nat) : whK mt b n (.ok .nx ρ) = sWhile mt b n ρ := rfl
def popO (x : Option (Option OD)) (i : Nat) (d : PyData) : M PyData := fun ρ => match d, x with
  | .int j, some (some (.ol xs)) => if -(2 ^ 63) ≤ j ∧ j < 2 ^ 63 then (match seqIndex? j xs.length with
      | some k => (match xs[k]? with
        | some y => .ok y (ρ.set i (some (.ol (xs.eraseIdx k))))
        | none => .bad)
      | none => .bad) else .bad
  | _, _ => .bad
theorem v_pop (i : Nat) (m : M PyData) : mPopAt i m ρ = (m ρ).go fun d => fun ρ => popO ρ[i]? i d ρ := rfl
theorem v_popk {i : Nat} {xs : List PyData} {j : Int} (h0 : 0 ≤ j) (h1 : j < xs.length) (h2 : xs.length < 2 ^ 62) : ∃ y, xs[j.toNat]? = some y ∧ ∀ ρ, popO (some (some (.ol xs))) i (.int j) ρ = .ok y (ρ.set i (some (.ol (xs.eraseIdx j.toNat)))) := by
  have hl : j.toNat < xs.length := by omega
  refine ⟨xs[j.toNat], List.getElem?_eq_getElem hl, fun ρ => ?_⟩
  have e : seqIndex? j xs.length = some j.toNat := by
    have hn : ¬ j < 0 := by omega
    unfold seqIndex?
    simp [h0, h1, hn]
  unfold popO
  simp only
  rw [if_pos ⟨by omega, by omega⟩]
  simp only [e, List.getElem?_eq_getElem hl]
def cpK (x : Res (List PyData)) (ρ : Rho) (vs : List Nat) : Res OD := match x with
  | .ok acc ρ' => if ρ'.length = ρ.length then .ok (.ol acc) (restR ρ ρ' vs) else .bad
  | _ => .bad
theorem v_comp (s : M (List PyData)) (t : Tgt) (mt : M Bool) (me : M PyData) (vs : List Nat) : mComp s t mt me vs ρ = (s ρ).go fun xs => fun ρ => cpK (lcGo t mt me vs xs [] ρ) ρ vs := by
  refine congrArg (Res.go (s ρ)) (funext fun xs => funext fun r => ?_)
  unfold cpK
  cases lcGo t mt me vs xs [] r <;> rfl
theorem v_comp2 (s : M (List PyData)) (t : Tgt) (mt : M Bool) (s1 : M (List PyData)) (t1 : Tgt) (mt1 : M Bool) (me : M PyData) (vs vs1 : List Nat) : mComp2 s t mt s1 t1 mt1 me vs vs1 ρ = (s ρ).go fun xs => fun ρ => cpK (lc2Go t mt s1 t1 mt1 me vs vs1 xs [] ρ) ρ vs := by
  refine congrArg (Res.go (s ρ)) (funext fun xs => funext fun r => ?_)
  unfold cpK
  cases lc2Go t mt s1 t1 mt1 me vs vs1 xs [] r <;> rfl
theorem v_cpk (acc : List PyData) (ρ' : Rho) (vs : List Nat) (h : ρ'.length = ρ.length) : cpK (.ok acc ρ') ρ vs = .ok (.ol acc) (restR ρ ρ' vs) := if_pos h
/-- a comprehension without tests over data, its items told one by one -/
theorem lc_map {t : Tgt} {me : M PyData} {vs : List Nat} {Inv : Rho → Prop} (g : PyData → PyData) : ∀ (xs acc : List PyData) (ρ : Rho), Inv ρ → acc.length + xs.length ≤ sizeLine →
    (∀ x ∈ xs, ∀ ρ, Inv ρ → ∃ ρ1 ρ2, t x (wipeR ρ vs) = some ρ1 ∧ me ρ1 = .ok (g x) ρ2 ∧ Inv ρ2) → ∃ ρ', Inv ρ' ∧ lcGo t (M.ret true) me vs xs acc ρ = .ok (acc ++ xs.map g) ρ'
  | [], acc, ρ, i, _, _ => ⟨ρ, i, by rw [List.map_nil, List.append_nil]; rfl⟩
  | x :: xs, acc, ρ, i, hl, h => by
    obtain ⟨ρ1, ρ2, e1, e2, i2⟩ := h x List.mem_cons_self ρ i
    rw [List.length_cons] at hl
    obtain ⟨ρ', i', e'⟩ := lc_map g xs (acc ++ [g x]) ρ2 i2 (by rw [List.length_append, List.length_singleton]; omega) fun y hy => h y (List.mem_cons_of_mem _ hy)
    refine ⟨ρ', i', ?_⟩
    simp only [lcGo, e1, M.ret, e2]
    rw [if_pos (by omega), e', List.map_cons, List.append_assoc]
    rfl
theorem v_wp0 : wipeR ρ [] = ρ := rfl
theorem v_wp1 (v : Nat) (vs : List Nat) : wipeR ρ (v :: vs) = (wipeR ρ vs).set v none := rfl
theorem v_rs0 (ρ0 : Rho) : restR ρ0 ρ [] = ρ := rfl
theorem v_rs1 (ρ0 : Rho) (v : Nat) (vs : List Nat) : restR ρ0 ρ (v :: vs) = (restR ρ0 ρ vs).set v (ρ0[v]?.join) := rfl
theorem v_sl (ma : M Arg) (ml mh : M (Option Int)) : mSl ma ml mh ρ = (ma ρ).go fun a => ml.bind fun l => mh.bind fun h => fun ρ => Res.opt ((res1 ρ a).bind fun d => gSl d l h) ρ := by
  refine congrArg (Res.go (ma ρ)) (funext fun a => funext fun r => congrArg (Res.go (ml r)) (funext fun l => funext fun r2 => congrArg (Res.go (mh r2)) (funext fun h => funext fun r3 => v_lift _)))
end
end Eg
namespace Eg
open PySem L2 PySem.W PySem.SeqAt
/-! ## keywords -/
theorem rAs.append {K : PySem.W.Frag} {F : Hp} {σ : St} : ∀ {vs ws : List V} {as bs : List Arg}, rAs K F σ vs as → rAs K F σ ws bs → rAs K F σ (vs ++ ws) (as ++ bs)
  | _, _, _, _, .nil, h => h
  | _, _, _, _, .dat d t, h => .dat d (rAs.append t h)
  | _, _, _, _, .slot d t, h => .slot d (rAs.append t h)
def mApp (ms mk : M (List Arg)) : M (List Arg) := ms.bind fun as => mk.bind fun bs => M.ret (as ++ bs)
section
variable {X : Cx} {C : Ct} {e a b : Expr} {es : List Expr} {pos p kpos : Pos} {k : Nat} {f : Addr} {fd : FuncData} {ps ks : List Str} {x : Str} {n n1 n2 : Nat} {m : Fn} {kws : List Keyword} {nm : Option Str}
theorem k_nil : PK X [] (tL C mNil) := ⟨fun pos pins s σ H Q I ⟨F, ρ, sr, p⟩ => pk_nil.run pos pins s σ H Q I (p F H [] Grow.refl sr .nil)⟩
theorem k_cons {ma : M Arg} {ms : M (List Arg)} (ha : PE X e (tA C ma)) (hr : PK X kws (tL C ms)) : PK X (⟨nm, e, kpos⟩ :: kws) (tL C (mCons ma ms)) := by
  refine ⟨fun pos pins s σ H Q I ⟨F, ρ, sr, p⟩ => (pk_cons ha hr).run pos pins s σ H Q I ?_⟩
  refine one sr stb_L p fun x a ρ1 F1 H1 s1 g1 r1 q1 => ?_
  refine ⟨F1, ρ1, s1, q1.part fun as ρ2 F2 H2 xs e2 q2 g2 s2 r2 => ?_⟩
  refine q2 F2 H2 (x :: xs) g2 s2 ?_
  cases a with
  | dat d => exact .dat (DV.mono g2.ext r1) r2
  | slot i => exact .slot r1 r2
/-- how the call's values are bound: those by place, then those by name, in the order of the parameters -/
def BindsK (K : PySem.W.Frag) (fd : FuncData) (ps ks : List Str) (n1 n2 : Nat) : Prop := ∀ (s : Shared) (us ws : List Value), K.In s.heap → us.length = n1 → ws.length = n2 → BindsTo s fd ⟨us, ks.zip ws⟩ (ps.zip (us ++ ws))
theorem o_fnK {ms mk : M (List Arg)} (F : FnG X.prog X.w X.K X.mg X.base (L2.CX X.prog X.w) k f fd ps (spI X.K C.XR (n1 + n2) m)) (hG : X.A.guards = some []) (hr : Room k X.A) (hg : Gl X x) (hm : X.mg x = some (.ref f)) (hk : PySem.W.keepIn X.K (.ref f) = true) (hb : BindsK X.K fd ps ks n1 n2) (tk : Takes X C.W) (ha : PA X (e :: es) (tL C ms)) (hkw : PK X kws (tL C mk))
    (h1 : LenOk ms n1) (h2 : LenOk mk n2) (hall : (backToKw pos (keywordEach kws X.env)).all (·.1.isSome) = true := by rfl) (hks : (backToKw pos (keywordEach kws X.env)).filterMap (·.1) = ks := by rfl)
    (hdb : (x == ("__debug__" : Str)) = false := by decide) (he : starEach (e :: es) X.env = (false, eval e X.env) :: starEach es X.env := by rfl)
    (hpl : ((backTo pos (starEach (e :: es) X.env)).any (·.1) || (backToKw pos (keywordEach kws X.env)).any (·.1.isNone)) = false := by rfl) (hK : X.K = C.K := by rfl) : PE X (.Call (.Name x p) (e :: es) kws pos) (tO C (mCall m (mApp ms mk))) := by
  refine ⟨fun pins s σ H Q I ⟨F0, ρ, sr, pp⟩ => ?_⟩
  refine wpAny_Call_Name_kw (ld_glob I hg hm ?_ hdb)
  -- what is asked of the values
  have go : tL C ms σ H fun vs H1 => tL C mk σ H1 fun zs H2 => (vs.length = n1 ∧ zs.length = n2) ∧ spI X.K C.XR (n1 + n2) m (vs ++ zs) H2 Q (WE C.W σ) := by
    refine ⟨F0, ρ, sr, ?_⟩
    have pp' : PostE C (rO C.K) σ ρ F0 H Q ((ms.bind fun as => mk.bind fun bs => fun ρ => match argsS ρ (as ++ bs) with
      | some os => (match m (os.map some) with
        | .ok r _ => .ok r ρ
        | .ex x _ => .ex x ρ
        | .bad => .bad)
      | none => .bad) ρ) := by
      have e : mCall m (mApp ms mk) ρ = (ms.bind fun as => mk.bind fun bs => fun ρ => match argsS ρ (as ++ bs) with
        | some os => (match m (os.map some) with
          | .ok r _ => .ok r ρ
          | .ex x _ => .ex x ρ
          | .bad => .bad)
        | none => .bad) ρ := by
        unfold mCall mApp M.bind M.ret
        cases ms ρ with
        | ok as ρ1 =>
          simp only
          cases mk ρ1 <;> rfl
        | _ => rfl
      rw [e] at pp
      exact pp
    refine PostE.part (RA := rL C.K) pp' fun as ρ1 F1 H1 xs e1 q1 g1 s1 r1 => ?_
    have q1 := q1.on stb_O g1
    refine ⟨F1, ρ1, s1, PostE.part (RA := rL C.K) q1 fun bs ρ2 F2 H2 zs e2 q2 g2 s2 r2 => ?_⟩
    have q2 := q2.on stb_O g2
    have l1 : xs.length = n1 := by rw [r1.len]; exact h1 _ _ _ e1
    have l2 : zs.length = n2 := by rw [r2.len]; exact h2 _ _ _ e2
    refine ⟨⟨l1, l2⟩, ?_⟩
    have ra := (rAs.mono g2.ext r1).append r2
    cases ea : argsS ρ2 (as ++ bs) with
    | none => simp only [ea] at q2; exact q2.elim
    | some os =>
      simp only [ea] at q2
      obtain ⟨k1, k2⟩ := argsS_at s2 ra ea
      obtain ⟨sa, no⟩ := SR.args s2 k1 k2
      refine ⟨by rw [List.length_append, l1, l2], F2, os, hK ▸ sa, ?_⟩
      rw [hK]
      cases e3 : m (os.map some) with
      | bad => simp only [e3] at q2; exact q2.elim
      | ok r ρa =>
        simp only [e3] at q2
        intro F' H' v g' s' ro
        obtain ⟨s3, g3⟩ := s2.after0 no g' s'.sub
        refine q2 F' H' v g3 s3 ⟨ro.1, fun io a ea => ?_⟩
        have hn : H2 a = none := ((ro.2 io a ea).2).resolve_right (no a)
        refine ⟨fun z => ?_, .inl hn⟩
        obtain ⟨_, u, hu⟩ := own.at s2 z
        rw [hn] at hu; cases hu
      | ex y ρa =>
        simp only [e3] at q2
        intro F' H' cls d g' s' xr
        obtain ⟨s3, g3⟩ := s2.after0 no g' s'.sub
        exact q2 F' H' cls d g3 s3 xr
  refine PySem.W.callWith_KW (h₀ := X.base) I.ok.mod.kin hk hall (thn (ha.run pos pins s σ H _ I go) fun us s1 ⟨vs, H1, I1, r, q⟩ => ?_) hpl he
  refine thn (hkw.run pos pins s1 σ H1 _ I1 q) fun ws s2 ⟨zs, H2, I2, rz, ⟨l1, l2⟩, q2⟩ => ⟨I2.kIn, ?_⟩
  rw [hks]
  have bt := hb s2 us ws I2.kIn (by rw [← r.length]; exact l1) (by rw [← rz.length]; exact l2)
  refine wpAny_call (codeAny_mono (F.run X.A X.stack s2 H2 ⟨us, ks.zip ws⟩ (us ++ ws) (vs ++ zs) Q (WE C.W σ) hG hr I2.env0 bt (r.append rz) q2) fun res s' q => ?_)
  match res, q with
  | .error e, q => exact passAt tk σ pins H2 s2 e s' I2 q
  | .ok (.ret u), q => exact I2.after q
/-- -a of a whole number -/
def negD : PyData → M PyData
  | .int i => M.ret (.int (-i))
  | _ => M.bad
theorem d_neg {ma : M PyData} (ha : PE X a (tD C ma)) : PE X (.UnaryOp .USub a pos) (tD C (ma.bind negD)) :=
  (pe_un un_neg ha).imp fun σ H Q ⟨F, ρ, sr, p⟩ => ⟨F, ρ, sr, p.part fun d ρ1 F1 H1 x e1 q1 g1 s1 r1 => by
    have q1 := q1.on stb_D g1
    cases r1 with
    | int i => exact ⟨i, rfl, q1 F1 H1 _ Grow.refl s1 (.int _)⟩
    | _ => exact q1.elim⟩
end
theorem v_app2 {ρ : Rho} (ms mk : M (List Arg)) : mApp ms mk ρ = (ms ρ).go fun as => mk.bind fun bs => M.ret (as ++ bs) := rfl
end Eg
namespace Eg
open PySem L2 PySem.W PySem.SeqAt
theorem v_andV {ρ : Rho} (ma mb : M PyData) : mAndV ma mb ρ = (ma ρ).go fun d => (asBool d).bind fun b => if b = true then mb else M.ret (.bool false) := rfl
theorem v_orV {ρ : Rho} (ma mb : M PyData) : mOrV ma mb ρ = (ma ρ).go fun d => (asBool d).bind fun b => if b = true then M.ret (.bool true) else mb := rfl
theorem v_notV {ρ : Rho} (ma : M PyData) : mNotV ma ρ = (ma ρ).go fun d => (asBool d).bind fun b => M.ret (.bool (!b)) := rfl
theorem v_neg (i : Int) : negD (.int i) = M.ret (.int (-i)) := rfl
/-- a comprehension with a test -/
theorem lc_filt {t : Tgt} {mt : M Bool} {me : M PyData} {vs : List Nat} {Inv : Rho → Prop} (b : PyData → Bool) (g : PyData → PyData) : ∀ (xs acc : List PyData) (ρ : Rho), Inv ρ → acc.length + xs.length ≤ sizeLine →
    (∀ x ∈ xs, ∀ ρ, Inv ρ → ∃ ρ1 ρ2, t x (wipeR ρ vs) = some ρ1 ∧ mt ρ1 = .ok (b x) ρ2 ∧ (b x = false → Inv ρ2) ∧ (b x = true → ∃ ρ3, me ρ2 = .ok (g x) ρ3 ∧ Inv ρ3)) → ∃ ρ', Inv ρ' ∧ lcGo t mt me vs xs acc ρ = .ok (acc ++ (xs.filter b).map g) ρ'
  | [], acc, ρ, i, _, _ => ⟨ρ, i, by rw [List.filter_nil, List.map_nil, List.append_nil]; rfl⟩
  | x :: xs, acc, ρ, i, hl, h => by
    obtain ⟨ρ1, ρ2, e1, e2, k1, k2⟩ := h x List.mem_cons_self ρ i
    rw [List.length_cons] at hl
    cases q : b x with
    | false =>
      obtain ⟨ρ', i', e'⟩ := lc_filt b g xs acc ρ2 (k1 q) (by omega) fun y hy => h y (List.mem_cons_of_mem _ hy)
      refine ⟨ρ', i', ?_⟩
      rw [q] at e2
      simp only [lcGo, e1, e2]
      rw [e', List.filter_cons, q]
      rfl
    | true =>
      obtain ⟨ρ3, e3, i3⟩ := k2 q
      obtain ⟨ρ', i', e'⟩ := lc_filt b g xs (acc ++ [g x]) ρ3 i3 (by rw [List.length_append, List.length_singleton]; omega) fun y hy => h y (List.mem_cons_of_mem _ hy)
      refine ⟨ρ', i', ?_⟩
      rw [q] at e2
      simp only [lcGo, e1, e2, e3]
      rw [if_pos (by omega), e', List.filter_cons, q, List.append_assoc]
      rfl
end Eg
namespace Eg
open PySem L2 PySem.W PySem.SeqAt
/-! ## how long a text of data is -/
theorem textFrom_most : ∀ (ts : List Str) (k : Nat) (acc : Str), (textFrom k acc ts).length ≤ acc.length + piled ts
  | [], k, acc => by show acc.length ≤ acc.length + _; omega
  | t :: ts, k, acc => by
    have ih := textFrom_most ts (k + 1) (acc ++ (if k > 0 then ", " else "" : String) ++ t)
    have e : (acc ++ (if k > 0 then ", " else "" : String) ++ t).length ≤ acc.length + 2 + t.length := by
      rw [strLen_append, strLen_append]
      have h0 : (("" : String) : Str).length = 0 := rfl
      have h2 : ((", " : String) : Str).length = 2 := rfl
      split <;> omega
    rw [piled_cons]
    show (textFrom (k + 1) (acc ++ (if k > 0 then ", " else "" : String) ++ t) ts).length ≤ _
    omega
theorem listText_most (ts : List Str) : (listText ts).length ≤ piled ts + 2 := by
  have h := textFrom_most ts 0 "["
  have h1 : (("[" : String) : Str).length = 1 := rfl
  have h2 : (("]" : String) : Str).length = 1 := rfl
  unfold listText
  rw [strLen_append]
  omega
theorem tupleText_most (ts : List Str) : (tupleText ts).length ≤ piled ts + 3 := by
  have h1 : (("(" : String) : Str).length = 1 := rfl
  have h2 : ((",)" : String) : Str).length = 2 := rfl
  have h3 : ((")" : String) : Str).length = 1 := rfl
  have hj : (Str.join ", " ts).length ≤ piled ts := by
    cases ts with
    | nil => exact Nat.zero_le _
    | cons t ts => have := join_length_add (t :: ts) (List.cons_ne_nil _ _); omega
  unfold tupleText
  rw [strLen_append, strLen_append]
  split <;> omega
theorem piled_le (n : Nat) : ∀ {ds : List PyData}, (∀ d ∈ ds, d.shown.length ≤ n) → piled (PyData.shownAll ds) ≤ (n + 2) * ds.length
  | [], _ => by rw [PyData.shownAll]; exact Nat.zero_le _
  | d :: ds, h => by
    have ih := piled_le n (ds := ds) fun x hx => h x (List.mem_cons_of_mem _ hx)
    have h0 := h d List.mem_cons_self
    rw [PyData.shownAll, piled_cons, List.length_cons, Nat.mul_add]
    omega
theorem showable_all : ∀ {ds : List PyData}, (∀ d ∈ ds, d.showable = true) → PyData.showableAll ds = true
  | [], _ => by rw [PyData.showableAll]
  | d :: ds, h => by
    rw [PyData.showableAll, h d List.mem_cons_self, showable_all fun x hx => h x (List.mem_cons_of_mem _ hx)]
    rfl
theorem depth_all (n : Nat) : ∀ {ds : List PyData}, (∀ d ∈ ds, d.depth ≤ n) → PyData.depthAll ds ≤ n
  | [], _ => by rw [PyData.depthAll]; exact Nat.zero_le _
  | d :: ds, h => by
    rw [PyData.depthAll]
    exact Nat.max_le.mpr ⟨h d List.mem_cons_self, depth_all n fun x hx => h x (List.mem_cons_of_mem _ hx)⟩
/-- what can be shown, so long at most -/
def Sh (n k : Nat) (d : PyData) : Prop := d.showable = true ∧ d.shown.length ≤ n ∧ d.depth ≤ k
theorem Sh.str {x : Str} {n : Nat} (h : (reprText x).length ≤ n) : Sh n 0 (.str x) := ⟨by rw [PyData.showable], by rw [PyData.shown]; exact h, by rw [PyData.depth]; exact Nat.le_refl _⟩
theorem Sh.list {n k m : Nat} {ds : List PyData} (h : ∀ d ∈ ds, Sh n k d) (hm : ds.length ≤ m) : Sh ((n + 2) * m + 3) (k + 1) (.list ds) := by
  refine ⟨?_, ?_, ?_⟩
  · rw [PyData.showable]; exact showable_all fun d hd => (h d hd).1
  · rw [PyData.shown]
    have h1 := listText_most (PyData.shownAll ds)
    have h2 := piled_le n fun d hd => (h d hd).2.1
    have h3 := Nat.mul_le_mul_left (n + 2) hm
    omega
  · rw [PyData.depth]
    have := depth_all k fun d hd => (h d hd).2.2
    omega
theorem Sh.tuple {n k m : Nat} {ds : List PyData} (h : ∀ d ∈ ds, Sh n k d) (hm : ds.length ≤ m) : Sh ((n + 2) * m + 3) (k + 1) (.tuple ds) := by
  refine ⟨?_, ?_, ?_⟩
  · rw [PyData.showable]; exact showable_all fun d hd => (h d hd).1
  · rw [PyData.shown]
    have h1 := tupleText_most (PyData.shownAll ds)
    have h2 := piled_le n fun d hd => (h d hd).2.1
    have h3 := Nat.mul_le_mul_left (n + 2) hm
    omega
  · rw [PyData.depth]
    have := depth_all k fun d hd => (h d hd).2.2
    omega
theorem Sh.repr {n k : Nat} {d : PyData} (h : Sh n k d) (hn : n ≤ 16777216) (hk : k ≤ 60) : gRepr [d] = some (.sh (.str d.shown)) := by
  have z := sizeLine_eq
  have hs : small d = true := decide_eq_true (Nat.le_trans h.2.2 hk)
  have hl : d.shown.length ≤ sizeLine := by have := h.2.1; omega
  simp only [gRepr]
  rw [if_pos ⟨h.1, hl, hs⟩]
end Eg
namespace Eg
open PySem L2 PySem.W PySem.SeqAt
section
variable {X : Cx} {C : Ct} {e a b c o tg iter : Expr} {es : List Expr} {pos p p1 p2 apos cpos pos' : Pos} {P : List Nat} {σ σ1 : St} {ρ ρ1 : Rho} {F H F1 H1 : Hp}
/-! ## type(x) is T -/
def tyName : PyData → Option String
  | .none => some "NoneType"
  | .bool _ => some "bool"
  | .int _ => some "int"
  | .str _ => some "str"
  | .list _ => some "list"
  | .tuple _ => some "tuple"
  | _ => Option.none
theorem Vw.tyB {K : PySem.W.Frag} {v : V} {d : PyData} {U : String} (h : Vw K F H v d) (s : Same F H) (e : tyName d = some U) : TyB K H v U := by
  cases d with
  | list ds => cases e; obtain ⟨q, vs, rfl, h1, _⟩ := h; exact .lst (SqL.of h1)
  | none => cases e; cases h; exact .non
  | bool b => cases e; cases h; exact .bl b
  | int b => cases e; cases h; exact .int b
  | str b => cases e; cases h; exact .str b
  | tuple ds =>
    cases e
    have h' : DV K F v (.tuple ds) := h
    cases h' with
    | tup h1 h2 => exact .tup (s.sqT h1)
  | _ => cases e
def gTyIs (T : String) (d : PyData) : Option PyData := (tyName d).map fun U => .bool (decide (U = T))
def gTyNot (T : String) (d : PyData) : Option PyData := (tyName d).map fun U => .bool (!decide (U = T))
theorem b_type : bootBuiltins "type" = some (.type "type") := by decide +kernel
theorem d_tyIs {T : String} {x : Str} {ma : M Arg} (hg : Gl X "type") (hm : X.mg "type" = none) (hg2 : Gl X x) (hm2 : X.mg x = none) (hv : bootBuiltins x = some (.type T)) (ha : PE X a (tA C ma)) (hK : X.K = C.K := by rfl)
    (hn : x ≠ "__name__" := by decide) (hdb : (x == ("__debug__" : Str)) = false := by decide) (he : starEach [a] X.env = [(false, eval a X.env)] := by rfl) :
    PE X (.Compare (.Call (.Name "type" p1) [a] [] pos') [.Is] [.Name x p2] pos) (tD C (m1 (gTyIs T) ma)) :=
  (pe_cmpR op_isTyB (pe_callTy call_type1 hg hm b_type (pa_cons ha pa_nil (by rw [he]; rfl)) (he := he)) (pe_bltn (v := .ty T) hg2 hm2 hv rfl hn hdb) (nomark _)).imp fun σ H Q ⟨F, ρ, sr, q⟩ =>
    one1 sr q fun x dx d ρ2 F2 H2 s2 r e q => by
      unfold gTyIs at e
      cases e1 : tyName dx with
      | none => rw [e1] at e; cases e
      | some U => rw [e1] at e; cases e; exact ⟨x, U, rfl, hK ▸ r.tyB s2.sub e1, _, _, rfl, rfl, q F2 H2 _ Grow.refl s2 (.bl _)⟩
theorem d_tyNot {T : String} {x : Str} {ma : M Arg} (hg : Gl X "type") (hm : X.mg "type" = none) (hg2 : Gl X x) (hm2 : X.mg x = none) (hv : bootBuiltins x = some (.type T)) (ha : PE X a (tA C ma)) (hK : X.K = C.K := by rfl)
    (hn : x ≠ "__name__" := by decide) (hdb : (x == ("__debug__" : Str)) = false := by decide) (he : starEach [a] X.env = [(false, eval a X.env)] := by rfl) :
    PE X (.Compare (.Call (.Name "type" p1) [a] [] pos') [.IsNot] [.Name x p2] pos) (tD C (m1 (gTyNot T) ma)) :=
  (pe_cmpR op_notTyB (pe_callTy call_type1 hg hm b_type (pa_cons ha pa_nil (by rw [he]; rfl)) (he := he)) (pe_bltn (v := .ty T) hg2 hm2 hv rfl hn hdb) (nomark _)).imp fun σ H Q ⟨F, ρ, sr, q⟩ =>
    one1 sr q fun x dx d ρ2 F2 H2 s2 r e q => by
      unfold gTyNot at e
      cases e1 : tyName dx with
      | none => rw [e1] at e; cases e
      | some U => rw [e1] at e; cases e; exact ⟨x, U, rfl, hK ▸ r.tyB s2.sub e1, _, _, rfl, rfl, q F2 H2 _ Grow.refl s2 (.bl _)⟩
/-- as a test -/
theorem one1T {ma : M Arg} {g : PyData → Option PyData} {σ : St} {ρ : Rho} {F H : Hp} {Q : Bool → Hp → Prop} {R : V → Hp → Prop} (sr : SR C.K F H σ ρ) (p : PostE (β := Bool) C (fun _ _ _ _ _ _ v d => v = d) σ ρ F H Q (((m1 g ma).bind asBool) ρ))
    (k : ∀ x dx d ρ2 F2 H2, SR C.K F2 H2 σ ρ2 → Vw C.K F2 H2 x dx → g dx = some d → PostE C (rD C.K) σ ρ2 F2 H2 (fun x H' => ∃ k, x = V.bl k ∧ Q k H') (.ok d ρ2) → R x H2) : tA C ma σ H R := by
  have p' : PostE C (rD C.K) σ ρ F H (fun x H' => ∃ k, x = V.bl k ∧ Q k H') (m1 g ma ρ) := p.part fun d ρ1 F1 H1 x e1 q1 g1 s1 r1 => asBool_post (β := Bool) (ρ0 := ρ) s1 r1 (q1.on stb_T g1)
  exact one1 sr p' k
theorem t_tyIs {T : String} {x : Str} {ma : M Arg} (hg : Gl X "type") (hm : X.mg "type" = none) (hg2 : Gl X x) (hm2 : X.mg x = none) (hv : bootBuiltins x = some (.type T)) (ha : PE X a (tA C ma)) (hK : X.K = C.K := by rfl)
    (hn : x ≠ "__name__" := by decide) (hdb : (x == ("__debug__" : Str)) = false := by decide) (he : starEach [a] X.env = [(false, eval a X.env)] := by rfl) :
    PT X (.Compare (.Call (.Name "type" p1) [a] [] pos') [.Is] [.Name x p2] pos) (tT C ((m1 (gTyIs T) ma).bind asBool)) :=
  (pt_cmpR op_isTyB (pe_callTy call_type1 hg hm b_type (pa_cons ha pa_nil (by rw [he]; rfl)) (he := he)) (pe_bltn (v := .ty T) hg2 hm2 hv rfl hn hdb) (nomark _)).imp fun σ H Q ⟨F, ρ, sr, q⟩ =>
    one1T sr q fun x dx d ρ2 F2 H2 s2 r e q => by
      unfold gTyIs at e
      cases e1 : tyName dx with
      | none => rw [e1] at e; cases e
      | some U => rw [e1] at e; cases e; exact ⟨x, U, rfl, hK ▸ r.tyB s2.sub e1, _, _, rfl, rfl, q F2 H2 _ Grow.refl s2 (.bl _)⟩
theorem t_tyNot {T : String} {x : Str} {ma : M Arg} (hg : Gl X "type") (hm : X.mg "type" = none) (hg2 : Gl X x) (hm2 : X.mg x = none) (hv : bootBuiltins x = some (.type T)) (ha : PE X a (tA C ma)) (hK : X.K = C.K := by rfl)
    (hn : x ≠ "__name__" := by decide) (hdb : (x == ("__debug__" : Str)) = false := by decide) (he : starEach [a] X.env = [(false, eval a X.env)] := by rfl) :
    PT X (.Compare (.Call (.Name "type" p1) [a] [] pos') [.IsNot] [.Name x p2] pos) (tT C ((m1 (gTyNot T) ma).bind asBool)) :=
  (pt_cmpR op_notTyB (pe_callTy call_type1 hg hm b_type (pa_cons ha pa_nil (by rw [he]; rfl)) (he := he)) (pe_bltn (v := .ty T) hg2 hm2 hv rfl hn hdb) (nomark _)).imp fun σ H Q ⟨F, ρ, sr, q⟩ =>
    one1T sr q fun x dx d ρ2 F2 H2 s2 r e q => by
      unfold gTyNot at e
      cases e1 : tyName dx with
      | none => rw [e1] at e; cases e
      | some U => rw [e1] at e; cases e; exact ⟨x, U, rfl, hK ▸ r.tyB s2.sub e1, _, _, rfl, rfl, q F2 H2 _ Grow.refl s2 (.bl _)⟩
/-! ## is True -/
def gIsB (k : Bool) : PyData → Option PyData
  | .bool b => some (.bool (decide (b = k)))
  | _ => none
def gNotB (k : Bool) : PyData → Option PyData
  | .bool b => some (.bool (!decide (b = k)))
  | _ => none
theorem d_isB {k : Bool} {j} {ma : M Arg} (ha : PE X a (tA C ma)) : PE X (.Compare a [.Is] [.Constant (.bool k) j pos'] pos) (tD C (m1 (gIsB k) ma)) :=
  (pe_cmpR op_isBl ha pe_bl (nomark _)).imp fun σ H Q ⟨F, ρ, sr, q⟩ => one1 sr q fun x dx d ρ2 F2 H2 s2 r e q => by
    cases dx <;> cases e
    cases r
    exact ⟨_, _, rfl, rfl, q F2 H2 _ Grow.refl s2 (.bl _)⟩
theorem d_notB {k : Bool} {j} {ma : M Arg} (ha : PE X a (tA C ma)) : PE X (.Compare a [.IsNot] [.Constant (.bool k) j pos'] pos) (tD C (m1 (gNotB k) ma)) :=
  (pe_cmpR op_notBl ha pe_bl (nomark _)).imp fun σ H Q ⟨F, ρ, sr, q⟩ => one1 sr q fun x dx d ρ2 F2 H2 s2 r e q => by
    cases dx <;> cases e
    cases r
    exact ⟨_, _, rfl, rfl, q F2 H2 _ Grow.refl s2 (.bl _)⟩
theorem t_isB {k : Bool} {j} {ma : M Arg} (ha : PE X a (tA C ma)) : PT X (.Compare a [.Is] [.Constant (.bool k) j pos'] pos) (tT C ((m1 (gIsB k) ma).bind asBool)) :=
  (pt_cmpR op_isBl ha pe_bl (nomark _)).imp fun σ H Q ⟨F, ρ, sr, q⟩ => one1T sr q fun x dx d ρ2 F2 H2 s2 r e q => by
    cases dx <;> cases e
    cases r
    exact ⟨_, _, rfl, rfl, q F2 H2 _ Grow.refl s2 (.bl _)⟩
theorem t_notB {k : Bool} {j} {ma : M Arg} (ha : PE X a (tA C ma)) : PT X (.Compare a [.IsNot] [.Constant (.bool k) j pos'] pos) (tT C ((m1 (gNotB k) ma).bind asBool)) :=
  (pt_cmpR op_notBl ha pe_bl (nomark _)).imp fun σ H Q ⟨F, ρ, sr, q⟩ => one1T sr q fun x dx d ρ2 F2 H2 s2 r e q => by
    cases dx <;> cases e
    cases r
    exact ⟨_, _, rfl, rfl, q F2 H2 _ Grow.refl s2 (.bl _)⟩
/-! ## all, any of a list of truths -/
def boolsOf : List PyData → Option (List Bool)
  | [] => some []
  | .bool b :: ds => (boolsOf ds).map (b :: ·)
  | _ => none
theorem bools_at {K : PySem.W.Frag} {H : Hp} : ∀ {vs : List V} {ds : List PyData} {bs : List Bool}, DVs K H vs ds → boolsOf ds = some bs → vs = bs.map V.bl
  | _, _, bs, .nil, e => by cases e; rfl
  | _, _, bs, .cons (d := d) h t, e => by
    cases d with
    | bool b =>
      cases h
      simp only [boolsOf] at e
      rename_i ds
      cases q : boolsOf ds with
      | none => rw [q] at e; cases e
      | some cs => rw [q] at e; cases e; rw [bools_at t q]; rfl
    | _ => simp [boolsOf] at e
def gAll : List PyData → Option OD
  | [.list ds] => (boolsOf ds).map fun bs => .sh (.bool (bs.all id))
  | _ => none
def gAny : List PyData → Option OD
  | [.list ds] => (boolsOf ds).map fun bs => .sh (.bool (bs.any id))
  | _ => none
theorem co_all (hc : X.calm = true) : CallO X (.builtin "all") gAll := callO_of (cr_all hc) fun F H xs ds o Q sub vw e q => by
  match ds, vw, e with
  | [.list ds], .cons h .nil, e =>
    simp only [gAll] at e
    cases q1 : boolsOf ds with
    | none => rw [q1] at e; cases e
    | some bs =>
      rw [q1] at e; cases e
      obtain ⟨p, vs, rfl, h1, h2⟩ := h
      have := bools_at h2 q1
      subst this
      exact ⟨p, bs, rfl, SqL.of h1, q _ _ _ (.asis (.bl _))⟩
theorem co_any (hc : X.calm = true) : CallO X (.builtin "any") gAny := callO_of (cr_any hc) fun F H xs ds o Q sub vw e q => by
  match ds, vw, e with
  | [.list ds], .cons h .nil, e =>
    simp only [gAny] at e
    cases q1 : boolsOf ds with
    | none => rw [q1] at e; cases e
    | some bs =>
      rw [q1] at e; cases e
      obtain ⟨p, vs, rfl, h1, h2⟩ := h
      have := bools_at h2 q1
      subst this
      exact ⟨p, bs, rfl, SqL.of h1, q _ _ _ (.asis (.bl _))⟩
theorem b_all : bootBuiltins "all" = some (.builtin "all") := by decide +kernel
theorem b_any : bootBuiltins "any" = some (.builtin "any") := by decide +kernel
/-! ## a op b op c -/
def mOp2 (g : PyData → PyData → Option PyData) (x y : PyData) : M PyData := M.lift (g x y)
def mChain (g g' : PyData → PyData → Option PyData) (ma mb mc : M PyData) : M PyData := ma.bind fun x => mb.bind fun y => (mOp2 g x y).bind fun d => (asBool d).bind fun k => if k = true then mc.bind fun z => mOp2 g' y z else M.ret (.bool false)
theorem chain_read {g g' : PyData → PyData → Option PyData} {ma mb mc : M PyData} {σ : St} {H : Hp} {Q : VK} (hK : X.K = C.K) : tD C (mChain g g' ma mb mc) σ H Q → tChain (rOp X.K g) (rOp X.K g') (tD C ma) (tD C mb) (tD C mc) σ H Q := by
  intro ⟨F, ρ, sr, q⟩
  rw [hK]
  refine ⟨F, ρ, sr, q.part fun x ρ1 F1 H1 vx e1 q1 g1 s1 r1 => ?_⟩
  have q1 := q1.on stb_D g1
  refine ⟨F1, ρ1, s1, q1.part fun y ρ2 F2 H2 vy e2 q2 g2 s2 r2 => ?_⟩
  have q2 := q2.on stb_D g2
  unfold mOp2 at q2
  unfold M.bind at q2
  cases eg : g x y with
  | none => rw [eg] at q2; exact q2.elim
  | some d =>
    rw [eg] at q2
    refine ⟨x, y, d, DV.mono (g2.ext.trans s2.sub) r1, DV.mono s2.sub r2, eg, fun w hw => ?_⟩
    have q2 : PostE C (rD C.K) σ ρ2 F2 H2 Q (((asBool d).bind fun k => if k = true then mc.bind fun z => mOp2 g' y z else M.ret (.bool false)) ρ2) := q2
    cases d with
    | bool k =>
      cases hw
      refine ⟨k, rfl, ?_⟩
      cases k with
      | false => exact q2 F2 H2 _ Grow.refl s2 (.bl _)
      | true =>
        refine ⟨F2, ρ2, s2, PostE.part (show PostE C (rD C.K) σ ρ2 F2 H2 Q ((mc.bind fun z => mOp2 g' y z) ρ2) from q2) fun z ρ3 F3 H3 vz e3 q3 g3 s3 r3 => ?_⟩
        have q3 := q3.on stb_D g3
        unfold mOp2 at q3
        cases eg' : g' y z with
        | none => rw [eg'] at q3; exact q3.elim
        | some d' =>
          rw [eg'] at q3
          exact ⟨y, z, d', DV.mono (g3.ext.trans s3.sub) r2, DV.mono s3.sub r3, eg', fun w hw => q3 F3 H3 w Grow.refl s3 (atom_dv hw)⟩
    | _ => exact q2.elim
theorem d_chain {op op' : CmpOp} {g g' : PyData → PyData → Option PyData} {ma mb mc : M PyData} (ho : OpD X (compareOp op) g) (ho' : OpD X (compareOp op') g') (ha : PE X a (tD C ma)) (hb : PE X b (tD C mb)) (hc : PE X c (tD C mc)) (hK : X.K = C.K := by rfl)
    (hm : lastMarks [op, op'] [b, c] = false := by with_unfolding_all rfl) : PE X (.Compare a [op, op'] [b, c] pos) (tD C (mChain g g' ma mb mc)) :=
  (pe_chain (opR_of ho) (opR_of ho') ha hb hc hm).imp fun σ H Q q => chain_read hK q
theorem t_chain {op op' : CmpOp} {g g' : PyData → PyData → Option PyData} {ma mb mc : M PyData} (ho : OpD X (compareOp op) g) (ho' : OpD X (compareOp op') g') (ha : PE X a (tD C ma)) (hb : PE X b (tD C mb)) (hc : PE X c (tD C mc)) (hK : X.K = C.K := by rfl)
    (hm : lastMarks [op, op'] [b, c] = false := by with_unfolding_all rfl) : PT X (.Compare a [op, op'] [b, c] pos) (tT C ((mChain g g' ma mb mc).bind asBool)) :=
  (pt_chain (opR_of ho) (opR_of ho') ha hb hc hm).imp fun σ H Q ⟨F, ρ, sr, q⟩ => chain_read hK ⟨F, ρ, sr, q.part fun d ρ1 F1 H1 x e1 q1 g1 s1 r1 => asBool_post (β := Bool) (ρ0 := ρ) s1 r1 (q1.on stb_T g1)⟩
/-! ## a text, walked -/
def strItems (x : Str) : List PyData := x.cps.toList.map fun c => .str ⟨#[c]⟩
def txtItems : PyData → M (List PyData)
  | .str x => M.ret (strItems x)
  | _ => M.bad
theorem walk_txt {K : PySem.W.Frag} {x : Str} : WalkD K F (Its x) (strItems x) := fun F2 H2 i s1 s2 => by
  unfold strItems
  refine ⟨fun hl => (show x.cps.size ≤ i by simpa using hl), fun d hd => ?_⟩
  rw [List.getElem?_map] at hd
  cases q : x.cps.toList[i]? with
  | none => rw [q] at hd; cases hd
  | some c =>
    rw [q] at hd; cases hd
    have hi : i < x.cps.size := by have := (List.getElem?_eq_some_iff.mp q).1; simpa using this
    refine ⟨hi, fun w H3 y => ?_⟩
    obtain ⟨e1, c', e2, e3⟩ := y
    subst e1 e3
    have : x.cps.toList[i]? = some c' := by simpa using e2
    rw [q] at this; cases this
    exact ⟨F2, .asis (.str _)⟩
theorem i_txt {m : M PyData} (h : PE X iter (tD C m)) : PI X tg iter (tI C (m.bind txtItems)) :=
  (pi_str h).imp fun σ H R ⟨F, ρ, sr, p⟩ => ⟨F, ρ, sr, p.part fun d ρ1 F1 H1 x e1 q1 g1 s1 r1 => by
    have q1 := q1.on stb_I g1
    cases r1 with
    | str z => exact ⟨z, rfl, q1 F1 H1 _ Grow.refl s1 walk_txt⟩
    | _ => exact q1.elim⟩
/-! ## zip -/
def zipD : PyData → PyData → Option (List PyData)
  | .list xs, .list ys => some (List.zipWith (fun x y => .tuple [x, y]) xs ys)
  | .tuple xs, .tuple ys => some (List.zipWith (fun x y => .tuple [x, y]) xs ys)
  | _, _ => none
theorem walk_zipL {K : PySem.W.Frag} {a b : Addr} {vs ws : List V} {ds es : List PyData} (h : F a = some (.lst vs)) (hd : DVs K F vs ds) (h' : F b = some (.lst ws)) (hd' : DVs K F ws es) : WalkD K F (Itz K a b) (List.zipWith (fun x y => .tuple [x, y]) ds es) := fun F2 H2 i s1 s2 => by
  have h2 : SqL K H2 a vs := SqL.of (s2 _ _ (s1 _ _ h))
  have h2' : SqL K H2 b ws := SqL.of (s2 _ _ (s1 _ _ h'))
  refine ⟨fun hl => ⟨vs, ws, h2, h2', by rw [hd.len, hd'.len]; rw [List.length_zipWith] at hl; omega⟩, fun x hx => ?_⟩
  rw [List.getElem?_zipWith] at hx
  cases q1 : ds[i]? with
  | none => rw [q1] at hx; cases hx
  | some x1 =>
    cases q2 : es[i]? with
    | none => rw [q1, q2] at hx; cases hx
    | some x2 =>
      rw [q1, q2] at hx; cases hx
      obtain ⟨v, ev, dv⟩ := hd.get q1
      obtain ⟨v', ev', dv'⟩ := hd'.get q2
      refine ⟨⟨vs, ws, v, v', h2, h2', ev, ev'⟩, fun w H3 ⟨T, x, y, e1, hT, e3, y1, y2⟩ => ?_⟩
      subst e1 e3
      have e4 := y1 vs h2
      rw [ev] at e4; cases e4
      have e5 := y2 ws h2'
      rw [ev'] at e5; cases e5
      exact ⟨_, .tup hT (.cons (DV.mono s1 dv) (.cons (DV.mono s1 dv') .nil))⟩
theorem walk_zipT {K : PySem.W.Frag} {a b : Addr} {vs ws : List V} {ds es : List PyData} (h : SqT K F a vs) (hd : DVs K F vs ds) (h' : SqT K F b ws) (hd' : DVs K F ws es) : WalkD K F (RZ.ItzT K a b) (List.zipWith (fun x y => .tuple [x, y]) ds es) := fun F2 H2 i s1 s2 => by
  have h2 : SqT K H2 a vs := s2.sqT (s1.sqT h)
  have h2' : SqT K H2 b ws := s2.sqT (s1.sqT h')
  refine ⟨fun hl => ⟨vs, ws, h2, h2', by rw [hd.len, hd'.len]; rw [List.length_zipWith] at hl; omega⟩, fun x hx => ?_⟩
  rw [List.getElem?_zipWith] at hx
  cases q1 : ds[i]? with
  | none => rw [q1] at hx; cases hx
  | some x1 =>
    cases q2 : es[i]? with
    | none => rw [q1, q2] at hx; cases hx
    | some x2 =>
      rw [q1, q2] at hx; cases hx
      obtain ⟨v, ev, dv⟩ := hd.get q1
      obtain ⟨v', ev', dv'⟩ := hd'.get q2
      refine ⟨⟨vs, ws, v, v', h2, h2', ev, ev'⟩, fun w H3 ⟨T, x, y, e1, hT, e3, y1, y2⟩ => ?_⟩
      subst e1 e3
      have e4 := y1 vs h2
      rw [ev] at e4; cases e4
      have e5 := y2 ws h2'
      rw [ev'] at e5; cases e5
      exact ⟨_, .tup hT (.cons (DV.mono s1 dv) (.cons (DV.mono s1 dv') .nil))⟩
theorem i_zip {elts : List Expr} {kk : Nat} {tpos : Pos} {ma mb : M PyData} (hg : Gl X "zip") (hm : X.mg "zip" = none) (ha : PE X a (tD C ma)) (hb : PE X b (tD C mb)) (hK : X.K = C.K := by rfl)
    (hs : starEach [a, b] X.env = (false, eval a X.env) :: starEach [b] X.env := by rfl) (hs2 : starEach [b] X.env = [(false, eval b X.env)] := by rfl) :
    PI X (.Tuple elts kk tpos) (.Call (.Name "zip" p) [a, b] [] pos) (tI C (ma.bind fun x => mb.bind fun y => M.lift (zipD x y))) :=
  (RZ.pi_zipA hg hm (pa_cons ha (pa_cons hb pa_nil (by rw [hs2]; rfl)) (by rw [hs])) hs (by rw [hs2]; rfl)).imp fun σ H R ⟨F, ρ, sr, q⟩ => ⟨F, ρ, sr, q.part fun x ρ1 F1 H1 vx e1 q1 g1 s1 r1 => by
    have q1 := q1.on stb_I g1
    refine ⟨F1, ρ1, s1, q1.part fun y ρ2 F2 H2 vy e2 q2 g2 s2 r2 => ?_⟩
    have q2 := q2.on stb_I g2
    have r1 := DV.mono g2.ext r1
    rw [hK]
    cases r1 with
    | @lst a vs ds h1 h2 =>
      cases r2 with
      | @lst b ws es h1' h2' => exact ⟨a, b, vs, ws, rfl, .inl ⟨SqL.of (s2.sub _ _ h1), SqL.of (s2.sub _ _ h1'), q2 F2 H2 _ Grow.refl s2 (walk_zipL h1 h2 h1' h2')⟩⟩
      | _ => exact q2.elim
    | @tup a vs ds h1 h2 =>
      cases r2 with
      | @tup b ws es h1' h2' => exact ⟨a, b, vs, ws, rfl, .inr ⟨s2.sub.sqT h1, s2.sub.sqT h1', q2 F2 H2 _ Grow.refl s2 (walk_zipT h1 h2 h1' h2')⟩⟩
      | _ => exact q2.elim
    | _ => cases r2 <;> exact q2.elim⟩
end
/-! ## computing -/
section
variable {ρ : Rho}
theorem v_chain (g g' : PyData → PyData → Option PyData) (ma mb mc : M PyData) : mChain g g' ma mb mc ρ = (ma ρ).go fun x => mb.bind fun y => (mOp2 g x y).bind fun d => (asBool d).bind fun k => if k = true then mc.bind fun z => mOp2 g' y z else M.ret (.bool false) := rfl
theorem v_op2 (g : PyData → PyData → Option PyData) (x y : PyData) : mOp2 g x y ρ = Res.opt (g x y) ρ := v_lift _
theorem v_txt (x : Str) : txtItems (.str x) = M.ret (strItems x) := rfl
theorem v_tiI (T : String) (i : Int) : gTyIs T (.int i) = some (.bool (decide ("int" = T))) := rfl
theorem v_tiB (T : String) (i : Bool) : gTyIs T (.bool i) = some (.bool (decide ("bool" = T))) := rfl
theorem v_tiS (T : String) (i : Str) : gTyIs T (.str i) = some (.bool (decide ("str" = T))) := rfl
theorem v_tiL (T : String) (i : List PyData) : gTyIs T (.list i) = some (.bool (decide ("list" = T))) := rfl
theorem v_tiT (T : String) (i : List PyData) : gTyIs T (.tuple i) = some (.bool (decide ("tuple" = T))) := rfl
theorem v_tiN (T : String) : gTyIs T .none = some (.bool (decide ("NoneType" = T))) := rfl
theorem v_tnI (T : String) (i : Int) : gTyNot T (.int i) = some (.bool (!decide ("int" = T))) := rfl
theorem v_tnB (T : String) (i : Bool) : gTyNot T (.bool i) = some (.bool (!decide ("bool" = T))) := rfl
theorem v_tnS (T : String) (i : Str) : gTyNot T (.str i) = some (.bool (!decide ("str" = T))) := rfl
theorem v_tnL (T : String) (i : List PyData) : gTyNot T (.list i) = some (.bool (!decide ("list" = T))) := rfl
theorem v_tnT (T : String) (i : List PyData) : gTyNot T (.tuple i) = some (.bool (!decide ("tuple" = T))) := rfl
theorem v_tnN (T : String) : gTyNot T .none = some (.bool (!decide ("NoneType" = T))) := rfl
theorem v_isB (k b : Bool) : gIsB k (.bool b) = some (.bool (decide (b = k))) := rfl
theorem v_notB (k b : Bool) : gNotB k (.bool b) = some (.bool (!decide (b = k))) := rfl
end
end Eg
namespace Eg
open PySem L2 PySem.W PySem.SeqAt
section
variable {X : Cx} {C : Ct} {e a b c o tg iter : Expr} {es : List Expr} {pos p p1 p2 apos cpos pos' : Pos} {P : List Nat} {σ σ1 : St} {ρ ρ1 : Rho} {F H F1 H1 : Hp}
/-! ## truth of any thing -/
def truOf : PyData → Option Bool
  | .none => some false
  | .bool b => some b
  | .int i => some (i != 0)
  | .str x => if x.length ≤ sizeLine then some ((x.length : Int) != 0) else Option.none
  | .list ds => some (!ds.isEmpty)
  | .tuple ds => some (!ds.isEmpty)
  | _ => Option.none
def truD (d : PyData) : M Bool := M.lift (truOf d)
theorem DV.tru {K : PySem.W.Frag} {v : V} {d : PyData} {k : Bool} (h : DV K F v d) (s : Same F H) (e : truOf d = some k) : TruV K v H k := by
  cases h with
  | non => cases e; rfl
  | bl b => cases e; rfl
  | int i => cases e; rfl
  | str x =>
    simp only [truOf] at e
    split at e <;> cases e
    exact ⟨by assumption, rfl⟩
  | lst h1 h2 => cases e; exact .inl ⟨_, SqL.of (s _ _ h1), by cases h2 <;> rfl⟩
  | tup h1 h2 => cases e; exact .inr (.inl ⟨_, s.sqT h1, by cases h2 <;> rfl⟩)
theorem t_tru {m : M PyData} (h : PE X e (tD C m)) (hK : X.K = C.K := by rfl) (he : ∀ whole, isTrue e X.env whole = (do let v ← whole; standAt e.pos; holding [v] (truthy v)) := by intro _; rfl) : PT X e (tT C (m.bind truD)) :=
  (pt_truth h he).imp fun σ H Q ⟨F, ρ, sr, p⟩ => ⟨F, ρ, sr, p.part fun d ρ1 F1 H1 x e1 q1 g1 s1 r1 => by
    have q1 := q1.on stb_T g1
    unfold truD at q1
    cases ek : truOf d with
    | none => rw [ek] at q1; exact q1.elim
    | some k => rw [ek] at q1; rw [hK]; exact ⟨k, DV.tru r1 s1.sub ek, q1 F1 H1 k Grow.refl s1 rfl⟩⟩
end
section
variable {ρ : Rho}
theorem v_truB (b : Bool) : truD (.bool b) = M.ret b := rfl
theorem v_truI (i : Int) : truD (.int i) = M.ret (i != 0) := rfl
theorem v_truL (ds : List PyData) : truD (.list ds) = M.ret (!ds.isEmpty) := rfl
theorem v_truT (ds : List PyData) : truD (.tuple ds) = M.ret (!ds.isEmpty) := rfl
theorem v_truN : truD .none = M.ret false := rfl
end
end Eg
namespace Eg
open PySem L2 PySem.W PySem.SeqAt
/-! ## comprehensions that leave the state as it was -/
theorem restR_at {ρ0 ρ : Rho} {j : Nat} (hl : ρ.length = ρ0.length) : ∀ {vs : List Nat}, j ∈ vs → (restR ρ0 ρ vs)[j]? = ρ0[j]?
  | v :: vs, h => by
    rw [v_rs1]
    by_cases e : v = j
    · subst e
      by_cases q : v < ρ0.length
      · rw [List.getElem?_set_self (by rw [restR_len, hl]; exact q), List.getElem?_eq_getElem q]; rfl
      · rw [List.getElem?_eq_none (by rw [List.length_set, restR_len, hl]; omega), List.getElem?_eq_none (by omega)]
    · rw [List.getElem?_set_ne e]
      rcases List.mem_cons.mp h with z | z
      · exact absurd z.symm e
      · exact restR_at hl z
theorem restR_self {ρ0 ρ : Rho} {vs : List Nat} (h : wipeR ρ vs = wipeR ρ0 vs) : restR ρ0 ρ vs = ρ0 := by
  have hl : ρ.length = ρ0.length := by rw [← wipeR_len ρ vs, h, wipeR_len]
  refine List.ext_getElem? fun j => ?_
  by_cases q : j ∈ vs
  · exact restR_at hl q
  · rw [restR_out q, ← wipeR_out (ρ := ρ) q, h, wipeR_out q]
section
variable {α : Type} {src : M (List PyData)} {t : Tgt} {mt : M Bool} {me : M PyData} {vs : List Nat} {ρ ρ0 : Rho}
theorem lc_mapT {Inv : Rho → Prop} (f g : α → PyData) : ∀ (xs : List α) (acc : List PyData) (ρ : Rho), Inv ρ → acc.length + xs.length ≤ sizeLine →
    (∀ x ∈ xs, ∀ ρ, Inv ρ → ∃ ρ1 ρ2, t (f x) (wipeR ρ vs) = some ρ1 ∧ me ρ1 = .ok (g x) ρ2 ∧ Inv ρ2) → ∃ ρ', Inv ρ' ∧ lcGo t (M.ret true) me vs (xs.map f) acc ρ = .ok (acc ++ xs.map g) ρ'
  | [], acc, ρ, i, _, _ => ⟨ρ, i, by rw [List.map_nil, List.map_nil, List.append_nil]; rfl⟩
  | x :: xs, acc, ρ, i, hl, h => by
    obtain ⟨ρ1, ρ2, e1, e2, i2⟩ := h x List.mem_cons_self ρ i
    rw [List.length_cons] at hl
    obtain ⟨ρ', i', e'⟩ := lc_mapT f g xs (acc ++ [g x]) ρ2 i2 (by rw [List.length_append, List.length_singleton]; omega) fun y hy => h y (List.mem_cons_of_mem _ hy)
    refine ⟨ρ', i', ?_⟩
    rw [List.map_cons]
    simp only [lcGo, e1, M.ret, e2]
    rw [if_pos (by omega), e', List.map_cons, List.append_assoc]
    rfl
theorem lc_filtT {Inv : Rho → Prop} (f : α → PyData) (b : α → Bool) (g : α → PyData) : ∀ (xs : List α) (acc : List PyData) (ρ : Rho), Inv ρ → acc.length + xs.length ≤ sizeLine →
    (∀ x ∈ xs, ∀ ρ, Inv ρ → ∃ ρ1 ρ2, t (f x) (wipeR ρ vs) = some ρ1 ∧ mt ρ1 = .ok (b x) ρ2 ∧ (b x = false → Inv ρ2) ∧ (b x = true → ∃ ρ3, me ρ2 = .ok (g x) ρ3 ∧ Inv ρ3)) → ∃ ρ', Inv ρ' ∧ lcGo t mt me vs (xs.map f) acc ρ = .ok (acc ++ (xs.filter b).map g) ρ'
  | [], acc, ρ, i, _, _ => ⟨ρ, i, by rw [List.filter_nil, List.map_nil, List.map_nil, List.append_nil]; rfl⟩
  | x :: xs, acc, ρ, i, hl, h => by
    obtain ⟨ρ1, ρ2, e1, e2, k1, k2⟩ := h x List.mem_cons_self ρ i
    rw [List.length_cons] at hl
    rw [List.map_cons]
    cases q : b x with
    | false =>
      obtain ⟨ρ', i', e'⟩ := lc_filtT f b g xs acc ρ2 (k1 q) (by omega) fun y hy => h y (List.mem_cons_of_mem _ hy)
      refine ⟨ρ', i', ?_⟩
      rw [q] at e2
      simp only [lcGo, e1, e2]
      rw [e', List.filter_cons, q]
      rfl
    | true =>
      obtain ⟨ρ3, e3, i3⟩ := k2 q
      obtain ⟨ρ', i', e'⟩ := lc_filtT f b g xs (acc ++ [g x]) ρ3 i3 (by rw [List.length_append, List.length_singleton]; omega) fun y hy => h y (List.mem_cons_of_mem _ hy)
      refine ⟨ρ', i', ?_⟩
      rw [q] at e2
      simp only [lcGo, e1, e2, e3]
      rw [if_pos (by omega), e', List.filter_cons, q, List.append_assoc]
      rfl
/-- a comprehension of a typed list; an item's reading leaves all but the block's names -/
theorem comp_pure {l : List α} {f : α → PyData} (g : α → PyData) (hs : src ρ = .ok (l.map f) ρ0) (hl : l.length ≤ sizeLine)
    (step : ∀ x ∈ l, ∃ ρ1 ρ2, t (f x) (wipeR ρ0 vs) = some ρ1 ∧ me ρ1 = .ok (g x) ρ2 ∧ wipeR ρ2 vs = wipeR ρ0 vs) : mComp src t (M.ret true) me vs ρ = .ok (.ol (l.map g)) ρ0 := by
  obtain ⟨ρ', i, e⟩ := lc_mapT (Inv := fun r => wipeR r vs = wipeR ρ0 vs) f g l [] ρ0 rfl (by rw [List.length_nil]; omega) fun x hx r hr => by
    obtain ⟨ρ1, ρ2, e1, e2, e3⟩ := step x hx
    exact ⟨ρ1, ρ2, by rw [hr]; exact e1, e2, e3⟩
  rw [v_comp, hs, v_go, e, v_cpk _ _ _ (by rw [← wipeR_len ρ' vs, i, wipeR_len]), restR_self i, List.nil_append]
theorem comp_filt {l : List α} {f : α → PyData} (b : α → Bool) (g : α → PyData) (hs : src ρ = .ok (l.map f) ρ0) (hl : l.length ≤ sizeLine)
    (step : ∀ x ∈ l, ∃ ρ1 ρ2, t (f x) (wipeR ρ0 vs) = some ρ1 ∧ mt ρ1 = .ok (b x) ρ2 ∧ wipeR ρ2 vs = wipeR ρ0 vs ∧ (b x = true → ∃ ρ3, me ρ2 = .ok (g x) ρ3 ∧ wipeR ρ3 vs = wipeR ρ0 vs)) : mComp src t mt me vs ρ = .ok (.ol ((l.filter b).map g)) ρ0 := by
  obtain ⟨ρ', i, e⟩ := lc_filtT (Inv := fun r => wipeR r vs = wipeR ρ0 vs) f b g l [] ρ0 rfl (by rw [List.length_nil]; omega) fun x hx r hr => by
    obtain ⟨ρ1, ρ2, e1, e2, e3, e4⟩ := step x hx
    exact ⟨ρ1, ρ2, by rw [hr]; exact e1, e2, fun _ => e3, e4⟩
  rw [v_comp, hs, v_go, e, v_cpk _ _ _ (by rw [← wipeR_len ρ' vs, i, wipeR_len]), restR_self i, List.nil_append]
/-- a comprehension whose items change the state: by a word of how many are told -/
theorem lc_fold {f : α → PyData} (n : Nat) (Inv : List PyData → Rho → Prop) : ∀ (xs : List α) (acc : List PyData) (ρ : Rho), Inv acc ρ → acc.length + xs.length = n → n ≤ sizeLine →
    (∀ x ∈ xs, ∀ acc ρ, acc.length < n → Inv acc ρ → ∃ d ρ1 ρ2, t (f x) (wipeR ρ vs) = some ρ1 ∧ me ρ1 = .ok d ρ2 ∧ Inv (acc ++ [d]) ρ2) → ∃ ds ρ', ds.length = n ∧ Inv ds ρ' ∧ lcGo t (M.ret true) me vs (xs.map f) acc ρ = .ok ds ρ'
  | [], acc, ρ, i, hn, _, _ => ⟨acc, ρ, by simpa using hn, i, rfl⟩
  | x :: xs, acc, ρ, i, hn, hl, h => by
    rw [List.length_cons] at hn
    obtain ⟨d, ρ1, ρ2, e1, e2, i2⟩ := h x List.mem_cons_self acc ρ (by omega) i
    obtain ⟨ds, ρ', hd, i', e'⟩ := lc_fold n Inv xs (acc ++ [d]) ρ2 i2 (by rw [List.length_append, List.length_singleton]; omega) hl fun y hy => h y (List.mem_cons_of_mem _ hy)
    refine ⟨ds, ρ', hd, i', ?_⟩
    rw [List.map_cons]
    simp only [lcGo, e1, M.ret, e2]
    rw [if_pos (by omega), e']
theorem comp_fold {l : List α} {f : α → PyData} (Inv : List PyData → Rho → Prop) (hs : src ρ = .ok (l.map f) ρ0) (hl : l.length ≤ sizeLine) (h0 : Inv [] ρ0) (hlen : ∀ ds r, Inv ds r → r.length = ρ0.length)
    (step : ∀ x ∈ l, ∀ acc ρ, acc.length < l.length → Inv acc ρ → ∃ d ρ1 ρ2, t (f x) (wipeR ρ vs) = some ρ1 ∧ me ρ1 = .ok d ρ2 ∧ Inv (acc ++ [d]) ρ2) : ∃ ds ρ', ds.length = l.length ∧ Inv ds ρ' ∧ mComp src t (M.ret true) me vs ρ = .ok (.ol ds) (restR ρ0 ρ' vs) := by
  obtain ⟨ds, ρ', hd, i, e⟩ := lc_fold (t := t) (me := me) (vs := vs) (f := f) l.length Inv l [] ρ0 h0 (by rw [List.length_nil]; omega) hl step
  exact ⟨ds, ρ', hd, i, by rw [v_comp, hs, v_go, e, v_cpk _ _ _ (hlen _ _ i)]⟩
/-! ## loops -/
variable {b : M Out}
/-- all turns go on -/
theorem loop_inv {f : α → PyData} (Inv : List α → Rho → Prop) (step : ∀ x rest ρ, Inv (x :: rest) ρ → ∃ ρ1 ρ2, t (f x) ρ = some ρ1 ∧ (b ρ1 = .ok .nx ρ2 ∨ b ρ1 = .ok .ct ρ2) ∧ Inv rest ρ2) : ∀ (l : List α) (ρ : Rho), Inv l ρ → ∃ ρ', sLoop t b (l.map f) ρ = .ok .nx ρ' ∧ Inv [] ρ'
  | [], ρ, i => ⟨ρ, rfl, i⟩
  | x :: l, ρ, i => by
    obtain ⟨ρ1, ρ2, e1, e2, i2⟩ := step x l ρ i
    obtain ⟨ρ', e', i'⟩ := loop_inv Inv step l ρ2 i2
    refine ⟨ρ', ?_, i'⟩
    rw [List.map_cons, v_lp1, e1, v_lpO]
    rcases e2 with e2 | e2 <;> rw [e2] <;> exact e'
/-- with ways out -/
theorem loop_gen {f : α → PyData} (Inv : List α → Rho → Prop) (Done : Res Out → Prop) (fin : ∀ ρ, Inv [] ρ → Done (.ok .nx ρ))
    (step : ∀ x rest ρ, Inv (x :: rest) ρ → ∃ ρ1, t (f x) ρ = some ρ1 ∧ ((∃ ρ2, (b ρ1 = .ok .nx ρ2 ∨ b ρ1 = .ok .ct ρ2) ∧ Inv rest ρ2) ∨ (∃ ρ2, b ρ1 = .ok .bk ρ2 ∧ Done (.ok .nx ρ2)) ∨ (∃ r ρ2, b ρ1 = .ok (.rt r) ρ2 ∧ Done (.ok (.rt r) ρ2)) ∨ (∃ x ρ2, b ρ1 = .ex x ρ2 ∧ Done (.ex x ρ2)))) : ∀ (l : List α) (ρ : Rho), Inv l ρ → Done (sLoop t b (l.map f) ρ)
  | [], ρ, i => fin ρ i
  | x :: l, ρ, i => by
    obtain ⟨ρ1, e1, h⟩ := step x l ρ i
    rw [List.map_cons, v_lp1, e1, v_lpO]
    rcases h with ⟨ρ2, e2, i2⟩ | ⟨ρ2, e2, d⟩ | ⟨r, ρ2, e2, d⟩ | ⟨x, ρ2, e2, d⟩
    · have := loop_gen Inv Done fin step l ρ2 i2
      rcases e2 with e2 | e2 <;> rw [e2] <;> exact this
    · rw [e2]; exact d
    · rw [e2]; exact d
    · rw [e2]; exact d
end
/-! ## data: facts -/
theorem gEq_refl {d : PyData} (h : alike d d = true) (s : small d = true) : gEq d d = some (.bool true) := by
  unfold gEq
  rw [if_pos s, eqv_refl_alike d h]
theorem gNe_refl {d : PyData} (h : alike d d = true) (s : small d = true) : gNe d d = some (.bool false) := by
  unfold gNe
  rw [if_pos s, eqv_refl_alike d h]
  rfl
def smallN (n : Nat) (d : PyData) : Prop := d.depth ≤ n
end Eg
namespace Eg
open PySem L2 PySem.W PySem.SeqAt
/-! ## a, b = a list -/
def tLst (ts : List Tgt) : Tgt := fun d ρ => match d with
  | .list ds => tTup.go ts ds ρ
  | _ => none
theorem tgo_len : ∀ (ts : List Tgt) (ds : List PyData) (ρ ρ' : Rho), tTup.go ts ds ρ = some ρ' → ds.length = ts.length := by
  intro ts
  induction ts with
  | nil => intro ds ρ ρ' h; cases ds with
    | nil => rfl
    | cons _ _ => cases h
  | cons t ts ih => intro ds ρ ρ' h; cases ds with
    | nil => cases h
    | cons d ds =>
      simp only [tTup.go] at h
      cases e1 : t d ρ with
      | none => rw [e1] at h; cases h
      | some ρ1 => rw [e1] at h; rw [List.length_cons, List.length_cons, ih ds ρ1 ρ' h]
theorem g_lst {C : Ct} {P : List Nat} {n k : Nat} {u : TGs} {ts : List Tgt} (h : TgsOk C P n u ts) (hk : ts.length = k := by rfl) : TgOk C P n (gLst C.K k u) (tLst ts) := fun v d σ ρ ρ' F H Q hn sr dv e q => by
  cases dv with
  | @lst a vs ds h1 h2 =>
    refine ⟨a, vs, rfl, SqL.of (sr.sub _ _ h1), ?_, tgs_run h vs ds σ ρ ρ' F H Q hn sr h2 e q⟩
    rw [h2.len, ← hk]
    exact tgo_len ts ds ρ ρ' e
  | _ => cases e
theorem v_tt (ts : List Tgt) (ds : List PyData) (ρ : Rho) : tTup ts (.tuple ds) ρ = tTup.go ts ds ρ := rfl
theorem v_tl (ts : List Tgt) (ds : List PyData) (ρ : Rho) : tLst ts (.list ds) ρ = tTup.go ts ds ρ := rfl
theorem v_go0 (ρ : Rho) : tTup.go [] [] ρ = some ρ := rfl
theorem v_go1 (t : Tgt) (ts : List Tgt) (d : PyData) (ds : List PyData) (ρ : Rho) : tTup.go (t :: ts) (d :: ds) ρ = (t d ρ).bind fun ρ' => tTup.go ts ds ρ' := rfl
end Eg
namespace Eg
open PySem L2 PySem.W PySem.SeqAt
/-! ## data that can be shown and compared with itself: n signs at most, k deep at most -/
def Fd (n k : Nat) (d : PyData) : Prop := Sh n k d ∧ alike d d = true
theorem _root_.Eg.Sh.mono' {n m k l : Nat} {d : PyData} (h : Sh n k d) (hn : n ≤ m) (hk : k ≤ l) : Sh m l d := ⟨h.1, Nat.le_trans h.2.1 hn, Nat.le_trans h.2.2 hk⟩
theorem Fd.mono {n m k l : Nat} {d : PyData} (h : Fd n k d) (hn : n ≤ m) (hk : k ≤ l) : Fd m l d := ⟨h.1.mono' hn hk, h.2⟩
theorem Fd.str {x : Str} {n : Nat} (h : (reprText x).length ≤ n) : Fd n 0 (.str x) := ⟨Sh.str h, by simp [alike]⟩
theorem Fd.bool (b : Bool) : Fd 5 0 (.bool b) := ⟨by cases b <;> exact ⟨by rw [PyData.showable], by decide +kernel, by rw [PyData.depth]; exact Nat.le_refl _⟩, by simp [alike]⟩
theorem Fd.none : Fd 4 0 .none := ⟨⟨by rw [PyData.showable], by decide +kernel, by rw [PyData.depth]; exact Nat.le_refl _⟩, by simp [alike]⟩
theorem Fd.int {i : Int} {n : Nat} (h : i.natAbs < 10 ^ n) (h0 : 0 < n := by decide) (hn : n ≤ 400 := by decide) : Fd (n + 1) 0 (.int i) := by
  refine ⟨⟨?_, ?_, by rw [PyData.depth]; exact Nat.le_refl _⟩, by simp [alike]⟩
  · rw [PyData.showable]
    refine decide_eq_true ?_
    by_cases z : i.natAbs = 0
    · rw [z]; decide
    · have h2 : (10 : Nat) ^ n ≤ 2 ^ (4 * n) := by
        rw [Nat.pow_mul]
        exact Nat.pow_le_pow_left (by decide) n
      have := (Nat.log2_lt z).mpr (Nat.lt_of_lt_of_le h h2)
      omega
  · rw [PyData.shown]
    show (Str.ofString (toString i)).length ≤ n + 1
    rw [ofString_length]
    exact int_text_length_le10 h0 h
theorem alikeAll_self : ∀ {ds : List PyData}, (∀ d ∈ ds, alike d d = true) → alikeAll ds ds = true
  | [], _ => by simp [alikeAll]
  | d :: ds, h => by
    rw [alikeAll, h d List.mem_cons_self, alikeAll_self fun x hx => h x (List.mem_cons_of_mem _ hx)]
    rfl
theorem Fd.list {n k m : Nat} {ds : List PyData} (h : ∀ d ∈ ds, Fd n k d) (hm : ds.length ≤ m) : Fd ((n + 2) * m + 3) (k + 1) (.list ds) := ⟨Sh.list (fun d hd => (h d hd).1) hm, by rw [alike]; exact alikeAll_self fun d hd => (h d hd).2⟩
theorem Fd.tuple {n k m : Nat} {ds : List PyData} (h : ∀ d ∈ ds, Fd n k d) (hm : ds.length ≤ m) : Fd ((n + 2) * m + 3) (k + 1) (.tuple ds) := ⟨Sh.tuple (fun d hd => (h d hd).1) hm, by rw [alike]; exact alikeAll_self fun d hd => (h d hd).2⟩
theorem Fd.repr {n k : Nat} {d : PyData} (h : Fd n k d) (hn : n ≤ 16777216 := by decide) (hk : k ≤ 60 := by decide) : gRepr [d] = some (.sh (.str d.shown)) := h.1.repr hn hk
theorem Fd.small {n k : Nat} {d : PyData} (h : Fd n k d) (hk : k ≤ 60 := by decide) : small d = true := decide_eq_true (Nat.le_trans h.1.2.2 hk)
theorem Fd.eqR {n k : Nat} {d : PyData} (h : Fd n k d) (hk : k ≤ 60 := by decide) : gEq d d = some (.bool true) := gEq_refl h.2 (h.small hk)
theorem Fd.neR {n k : Nat} {d : PyData} (h : Fd n k d) (hk : k ≤ 60 := by decide) : gNe d d = some (.bool false) := gNe_refl h.2 (h.small hk)
theorem gNe_strR (x : Str) : gNe (.str x) (.str x) = some (.bool false) := gNe_refl (by simp [alike]) (by simp [Eg.small, PyData.depth])
theorem gEq_strR (x : Str) : gEq (.str x) (.str x) = some (.bool true) := gEq_refl (by simp [alike]) (by simp [Eg.small, PyData.depth])
/-- each of a few -/
theorem all1 {p : PyData → Prop} {a : PyData} (ha : p a) : ∀ d ∈ [a], p d := fun d h => by simp at h; rw [h]; exact ha
theorem all2 {p : PyData → Prop} {a b : PyData} (ha : p a) (hb : p b) : ∀ d ∈ [a, b], p d := fun d h => by
  rcases List.mem_cons.mp h with rfl | h
  · exact ha
  · exact all1 hb d h
theorem all3 {p : PyData → Prop} {a b c : PyData} (ha : p a) (hb : p b) (hc : p c) : ∀ d ∈ [a, b, c], p d := fun d h => by
  rcases List.mem_cons.mp h with rfl | h
  · exact ha
  · exact all2 hb hc d h
theorem all4 {p : PyData → Prop} {a b c e : PyData} (ha : p a) (hb : p b) (hc : p c) (he : p e) : ∀ d ∈ [a, b, c, e], p d := fun d h => by
  rcases List.mem_cons.mp h with rfl | h
  · exact ha
  · exact all3 hb hc he d h
theorem allM {α : Type} {p : PyData → Prop} {f : α → PyData} {l : List α} (h : ∀ x ∈ l, p (f x)) : ∀ d ∈ l.map f, p d := fun d hd => by
  obtain ⟨x, hx, rfl⟩ := List.mem_map.mp hd
  exact h x hx
/-! ## displays of any length -/
theorem tupG_ok {ds : List PyData} (h : ds.length ≤ sizeLine) : tupG ds = some (.tuple ds) := if_pos h
theorem lstG_ok {ds : List PyData} (h : ds.length ≤ sizeLine) : lstG ds = some (.ol ds) := if_pos h
theorem tp0 : tupG [] = some (.tuple []) := tupG_ok (by show 0 ≤ sizeLine; decide)
theorem tp1 (a : PyData) : tupG [a] = some (.tuple [a]) := tupG_ok (by show 1 ≤ sizeLine; decide)
theorem tp2 (a b : PyData) : tupG [a, b] = some (.tuple [a, b]) := tupG_ok (by show 2 ≤ sizeLine; decide)
theorem tp3 (a b c : PyData) : tupG [a, b, c] = some (.tuple [a, b, c]) := tupG_ok (by show 3 ≤ sizeLine; decide)
theorem tp4 (a b c d : PyData) : tupG [a, b, c, d] = some (.tuple [a, b, c, d]) := tupG_ok (by show 4 ≤ sizeLine; decide)
theorem tp5 (a b c d e : PyData) : tupG [a, b, c, d, e] = some (.tuple [a, b, c, d, e]) := tupG_ok (by show 5 ≤ sizeLine; decide)
theorem tp6 (a b c d e f : PyData) : tupG [a, b, c, d, e, f] = some (.tuple [a, b, c, d, e, f]) := tupG_ok (by show 6 ≤ sizeLine; decide)
theorem tp7 (a b c d e f g : PyData) : tupG [a, b, c, d, e, f, g] = some (.tuple [a, b, c, d, e, f, g]) := tupG_ok (by show 7 ≤ sizeLine; decide)
theorem ls0 : lstG [] = some (.ol []) := lstG_ok (by show 0 ≤ sizeLine; decide)
theorem ls1 (a : PyData) : lstG [a] = some (.ol [a]) := lstG_ok (by show 1 ≤ sizeLine; decide)
theorem ls2 (a b : PyData) : lstG [a, b] = some (.ol [a, b]) := lstG_ok (by show 2 ≤ sizeLine; decide)
theorem ls3 (a b c : PyData) : lstG [a, b, c] = some (.ol [a, b, c]) := lstG_ok (by show 3 ≤ sizeLine; decide)
theorem ls4 (a b c d : PyData) : lstG [a, b, c, d] = some (.ol [a, b, c, d]) := lstG_ok (by show 4 ≤ sizeLine; decide)
theorem ls5 (a b c d e : PyData) : lstG [a, b, c, d, e] = some (.ol [a, b, c, d, e]) := lstG_ok (by show 5 ≤ sizeLine; decide)
theorem ls6 (a b c d e f : PyData) : lstG [a, b, c, d, e, f] = some (.ol [a, b, c, d, e, f]) := lstG_ok (by show 6 ≤ sizeLine; decide)
theorem ls7 (a b c d e f g : PyData) : lstG [a, b, c, d, e, f, g] = some (.ol [a, b, c, d, e, f, g]) := lstG_ok (by show 7 ≤ sizeLine; decide)
theorem tuL (ds : List PyData) : gTuple [.list ds] = some (.sh (.tuple ds)) := rfl
end Eg
namespace Eg
open PySem L2 PySem.W PySem.SeqAt
section
variable {X : Cx} {C : Ct} {e a b c o tg iter : Expr} {es : List Expr} {pos p p1 p2 apos cpos pos' : Pos} {P : List Nat} {σ σ1 : St} {ρ ρ1 : Rho} {F H F1 H1 : Hp}
/-! ## isinstance(x, T) -/
def gIsi (T : String) (d : PyData) : Option PyData := (tyName d).bind fun U => (kitB U T).map .bool
theorem sqT_tyX {K : PySem.W.Frag} {H : Hp} {a : Addr} {xs : List V} (h : SqT K H a xs) : TyX K H (.ref a) (.type "tuple") := by
  rcases h with (h | ⟨o, h⟩) | ⟨o, _, _, h, h2, _⟩
  · exact .base (.tup h)
  · exact .fTuple h
  · exact .kTuple h h2
theorem Vw.tyX {K : PySem.W.Frag} {v : V} {d : PyData} {U : String} (h : Vw K F H v d) (s : Same F H) (e : tyName d = some U) : TyX K H v (.type U) := by
  cases d with
  | list ds => cases e; obtain ⟨q, vs, rfl, h1, _⟩ := h; exact .base (.lst h1)
  | none => cases e; cases h; exact .base .non
  | bool b => cases e; cases h; exact .base (.bl b)
  | int b => cases e; cases h; exact .base (.int b)
  | str b => cases e; cases h; exact .base (.str b)
  | tuple ds =>
    cases e
    have h' : DV K F v (.tuple ds) := h
    cases h' with
    | tup h1 h2 => exact sqT_tyX (s.sqT h1)
  | _ => cases e
theorem b_isi : bootBuiltins "isinstance" = some (.builtin "isinstance") := by decide +kernel
theorem d_isi {T : String} {x : Str} {ma : M Arg} (hg : Gl X "isinstance") (hm : X.mg "isinstance" = none) (hg2 : Gl X x) (hm2 : X.mg x = none) (hv : bootBuiltins x = some (.type T)) (ha : PE X a (tA C ma)) (hK : X.K = C.K := by rfl)
    (hn : x ≠ "__name__" := by decide) (hdb : (x == ("__debug__" : Str)) = false := by decide) (he : starEach [a, .Name x p2] X.env = (false, eval a X.env) :: starEach [.Name x p2] X.env := by rfl) (he2 : starEach [.Name x p2] X.env = [(false, eval (.Name x p2) X.env)] := by rfl) :
    PE X (.Call (.Name "isinstance" p1) [a, .Name x p2] [] pos) (tD C (m1 (gIsi T) ma)) :=
  (pe_callB call_isi hg hm b_isi (pa_cons ha (pa_cons (pe_bltn (v := .ty T) hg2 hm2 hv rfl hn hdb) pa_nil (by rw [he2]; rfl)) he) (he := he) (hpl := by rw [he2]; rfl)).imp fun σ H Q ⟨F, ρ, sr, q⟩ =>
    one1 sr q fun x dx d ρ2 F2 H2 s2 r e q => by
      unfold gIsi at e
      cases e1 : tyName dx with
      | none => rw [e1] at e; cases e
      | some U =>
        rw [e1] at e
        simp only [Option.bind_some] at e
        cases e2 : kitB U T with
        | none => rw [e2] at e; cases e
        | some k => rw [e2] at e; cases e; exact ⟨x, .ty T, _, _, k, rfl, .ty T, hK ▸ r.tyX s2.sub e1, kit_ty e2, q F2 H2 _ Grow.refl s2 (.bl _)⟩
/-! ## math.gcd -/
def gGcd : List PyData → Option OD
  | [.int a, .int b] => some (.sh (.int ((Nat.gcd a.natAbs b.natAbs : Nat) : Int)))
  | _ => none
theorem co_gcd : CallO X (.builtin "math.gcd") gGcd := callO_of cr_gcd fun F H xs ds o Q sub vw e q => by
  match ds, vw, e with
  | [.int x, .int y], .cons h1 (.cons h2 .nil), e =>
    cases e
    cases h1
    cases h2
    exact ⟨x, y, rfl, q _ _ _ (.asis (.int _))⟩
theorem o_callMg {id : String} {x : Str} {p : Pos} {g : List PyData → Option OD} {ms : M (List Arg)} (hc : CallO X (.builtin id) g) (hg : Gl X x) (hm : X.mg x = some (.builtin id)) (ha : PA X (e :: es) (tL C ms)) (hdb : (x == ("__debug__" : Str)) = false := by decide)
    (he : starEach (e :: es) X.env = (false, eval e X.env) :: starEach es X.env := by rfl) (hpl : (backTo pos (starEach es X.env)).any (·.1) = false := by rfl) (hK : X.K = C.K := by rfl) : PE X (.Call (.Name x p) (e :: es) [] pos) (tO C (mL g ms)) := by
  refine ⟨fun pins s σ H Q I ⟨F, ρ, sr, pp⟩ => ?_⟩
  refine wpAny_Call_Name_kw (ld_glob I hg hm ?_ hdb)
  refine PyProof.Rows.callWith_builtin1 (thn (ha.run pos pins s σ H (fun xs H2 => ∃ ds d ρ2 F2, SR C.K F2 H2 σ ρ2 ∧ Vws C.K F2 H2 xs ds ∧ g ds = some d ∧ PostE C (rO C.K) σ ρ2 F2 H2 Q (.ok d ρ2)) I (many sr stb_O pp fun xs ds d ρ2 F2 H2 s2 vw e q => ⟨ds, d, ρ2, F2, s2, vw, e, q⟩))
    fun us s1 ⟨vs, H1, I1, r1, ds, d, ρ2, F2, s2, vw, e, q⟩ => ?_) he hpl
  exact hc pins s1 σ F2 H1 vs us ds d Q I1 r1 s2.sub (hK ▸ vw) e fun F' H' w h => Alloc.post s2 (hK ▸ h) q
/-! ## xs[k] = v of a slot -/
def putLO (x : Option (Option OD)) (i : Nat) (d kd : PyData) : M Out := fun ρ => match kd, x with
  | .int j, some (some (.ol xs)) => (match ixN xs.length j with
    | some n => .ok .nx (ρ.set i (some (.ol (xs.set n d))))
    | none => .bad)
  | _, _ => .bad
def sPutL (i : Nat) (mv mk : M PyData) : M Out := mv.bind fun d => mOl i (mk.bind fun kd => fun ρ => putLO ρ[i]? i d kd ρ)
theorem s_putL {i : Nat} {value : Expr} {mv mk : M PyData} (ho : PE X o (tVar i)) (hi : PE X e (tD C mk)) (hv : PE X value (tD C mv)) (hs : swapsWithSole [.Subscript o e pos'] value pos.line X.env = pure false := by rfl) (hw : swappedStores [.Subscript o e pos'] value X.env = pure none := by rfl)
    (h1 : (assignEach [.Subscript o e pos'] X.env).map (·.2) = [assign (.Subscript o e pos') X.env] := by rfl)
    (hsub : ∀ v, assign (.Subscript o e pos') X.env v = (do
      let ov ← holding [v] (eval o X.env)
      let iv ← holding [v, ov] (eval e X.env)
      standAt pos'
      holding [v, ov, iv] (setItem ov iv v)
      release [v, ov, iv] []) := by intro _; rfl) :
    PS X (.Assign [.Subscript o e pos'] value pos) (tS C P (sPutL i mv mk)) :=
  (ps_asg hv (pg_sub ho hi set_list hsub) hs hw h1).imp fun D σ H ⟨F, ρ, sr, p⟩ => by
    refine ⟨F, ρ, sr, PostS.part (P := P) p fun d ρ1 F1 H1 v q1 g1 s1 r1 => ?_⟩
    unfold mOl at q1
    split at q1
    · rename_i hio
      obtain ⟨xs0, eo⟩ := isOl_at hio
      obtain ⟨x, hx, _⟩ := s1.sl i _ eo
      refine ⟨x, hx, F1, ρ1, s1, PostS.part (P := P) q1 fun kd ρ2 F2 H2 y q2 g2 s2 r2 => ?_⟩
      unfold putLO at q2
      split at q2
      · rename_i j xs eo2
        split at q2
        · rename_i n hz
          obtain ⟨x', hx', a, vs, rfl, k1, k2, k3⟩ := s2.sl i _ eo2
          rw [hx] at hx'; cases hx'
          cases r2
          have st := SR.write (i := i) (o' := .ol (xs.set n d)) (u := .lst (vs.set n v)) s2 eo2 rfl hx rfl ⟨a, vs.set n v, rfl, k1, upd_same, DVs.set (DV.mono g2.ext r1) n k3⟩
          exact ⟨a, vs, j, n, rfl, rfl, k2, by rw [k3.len]; exact hz, q2 F2 _ σ st.2 st.1 Pres.refl⟩
        · exact q2.elim
      · exact q2.elim
    · exact q1.elim
/-! ## xs.extend(ys) of a slot -/
def extO (x : Option (Option OD)) (i : Nat) (d : PyData) : M PyData := fun ρ => match x, d with
  | some (some (.ol xs)), .list ys => if xs.length + ys.length ≤ sizeLine then .ok .none (ρ.set i (some (.ol (xs ++ ys)))) else .bad
  | _, _ => .bad
def mExtend (i : Nat) (m : M PyData) : M PyData := m.bind fun d => fun ρ => extO ρ[i]? i d ρ
theorem x_extend {i : Nat} {m : M PyData} (ho : PE X o (tVar i)) (he : PE X e (tD C m))
    (hbase : attributeBase o "extend" X.env (eval o X.env) = eval o X.env := by rfl)
    (hfew : ((backTo cpos (starEach [e] X.env)).all (fun z => !z.1) && (backToKw cpos (keywordEach [] X.env)).all (fun z => z.1.isSome)
      && decide ([e].length + ([] : List Keyword).length + (if ([] : List Keyword).isEmpty then 0 else 1) < 30)) = true := by rfl)
    (hline : (apos.endLine == cpos.line) = true := by rfl) (hs : starEach [e] X.env = (false, eval e X.env) :: starEach [] X.env := by rfl) :
    PE X (.Call (.Attribute o "extend" apos) [e] [] cpos) (tD C (mOl i (mExtend i m))) := by
  refine (pe_bm PySem.F.plainAttrs_list PySem.F.slot_list_extend PySem.F.type_list_extend mt_extend ho (pa_cons he pa_nil hs) hbase hfew hline hs rfl).imp fun σ H Q ⟨F, ρ, sr, p⟩ => ?_
  unfold mOl at p
  split at p
  · rename_i hi
    obtain ⟨xs, ex⟩ := isOl_at hi
    obtain ⟨v, hv, a, vs, rfl, h1, h2, h3⟩ := sr.sl i _ ex
    refine ⟨_, hv, .inl ⟨rfl, vs, SqL.of h2⟩, F, ρ, sr, p.part fun d ρ1 F1 H1 y e1 q1 g1 s1 r1 => ?_⟩
    have q1 := q1.on stb_D g1
    unfold extO at q1
    split at q1
    · rename_i ys zs q _
      split at q1
      · rename_i hz
        obtain ⟨v', hv', b, ws, e2, k1, k2, k3⟩ := s1.sl i _ q
        rw [hv] at hv'; cases hv'; cases e2
        cases r1 with
        | @lst c us ds c1 c2 =>
          have st := SR.write (i := i) (o' := .ol (ys ++ zs)) (u := .lst (ws ++ us)) s1 q rfl hv rfl ⟨a, ws ++ us, rfl, k1, upd_same, k3.append c2⟩
          exact ⟨a, c, ws, us, rfl, rfl, k2, s1.sub _ _ c1, by rw [k3.len, c2.len]; exact hz, q1 F1 _ _ st.2 st.1 .non⟩
      · exact q1.elim
    · exact q1.elim
  · exact p.elim
end
section
variable {ρ : Rho}
theorem v_putL (i : Nat) (mv mk : M PyData) : sPutL i mv mk ρ = (mv ρ).go fun d => mOl i (mk.bind fun kd => fun ρ => putLO ρ[i]? i d kd ρ) := rfl
theorem v_putLO {xs : List PyData} {i n : Nat} {d : PyData} {j : Int} (h : ixN xs.length j = some n) : putLO (some (some (.ol xs))) i d (.int j) ρ = .ok .nx (ρ.set i (some (.ol (xs.set n d)))) := by
  simp only [putLO, h]
theorem v_ext (i : Nat) (m : M PyData) : mExtend i m ρ = (m ρ).go fun d => fun ρ => extO ρ[i]? i d ρ := rfl
theorem v_exto {xs ys : List PyData} {i : Nat} (h : xs.length + ys.length ≤ sizeLine) : extO (some (some (.ol xs))) i (.list ys) ρ = .ok .none (ρ.set i (some (.ol (xs ++ ys)))) := if_pos h
end
/-! ## a def that calls itself -/
theorem fnG_bad {P : Program} {w : World} {K : PySem.W.Frag} {mg : Str → Option Value} {base : Heap} {k n : Nat} {f : Addr} {fd : FuncData} {ps : List Str} {XR : Hp → Hp → Value → Option Addr → Xc → Prop} (hn : ps.length = n) : FnG P w K mg base (L2.CX P w) k f fd ps (spI K XR n fun _ => .bad) :=
  ⟨fun vs H Q E h => hn.trans h.1.symm, fun A outer s H args us vs Q E _ _ _ _ _ h => by
    obtain ⟨_, F, os, _, p⟩ := h
    exact p.elim⟩
end Eg
namespace Eg
open PySem L2 PySem.W PySem.SeqAt
/-! ## calls by names, in any order, some left out -/
structure Dft (K : PySem.W.Frag) (v : V) (u : Value) (d : PyData) : Prop where
  rel : RelV v u
  dv : ∀ F, DV K F v d
abbrev Pick := List (Nat ⊕ (V × Value × PyData))
def pkU (π : Pick) (us : List Value) : List Value := π.map fun x => match x with
  | .inl i => us.getD i .none
  | .inr t => t.2.1
def pkV (π : Pick) (vs : List V) : List V := π.map fun x => match x with
  | .inl i => vs.getD i .non
  | .inr t => t.1
def pkA (π : List (Nat ⊕ PyData)) (as : List Arg) : List Arg := π.map fun x => match x with
  | .inl i => as.getD i (.dat .none)
  | .inr d => .dat d
def forget (π : Pick) : List (Nat ⊕ PyData) := π.map fun x => match x with
  | .inl i => .inl i
  | .inr t => .inr t.2.2
def pkOk (K : PySem.W.Frag) (n : Nat) : Pick → Prop
  | [] => True
  | .inl i :: π => i < n ∧ pkOk K n π
  | .inr t :: π => Dft K t.1 t.2.1 t.2.2 ∧ pkOk K n π
theorem valsGet : ∀ {vs : List V} {us : List Value} (i : Nat), Vals vs us → RelV (vs.getD i .non) (us.getD i .none)
  | _, _, _, .nil => rfl
  | _, _, 0, .cons h _ => h
  | _, _, i + 1, .cons _ h => by simpa using valsGet i h
theorem pkVals {K : PySem.W.Frag} {n : Nat} : ∀ {π : Pick} {vs : List V} {us : List Value}, pkOk K n π → Vals vs us → Vals (pkV π vs) (pkU π us)
  | [], _, _, _, _ => .nil
  | .inl i :: π, _, _, h, r => .cons (valsGet i r) (pkVals h.2 r)
  | .inr t :: π, _, _, h, r => .cons h.1.rel (pkVals h.2 r)
theorem rAsGet {K : PySem.W.Frag} {F : Hp} {σ : St} : ∀ {vs : List V} {as : List Arg} (i : Nat), rAs K F σ vs as → i < vs.length → ∀ {ws : List V} {bs : List Arg}, rAs K F σ ws bs → rAs K F σ (vs.getD i .non :: ws) (as.getD i (.dat .none) :: bs)
  | _, _, 0, .dat h _, _, _, _, t => .dat h t
  | _, _, 0, .slot h _, _, _, _, t => .slot h t
  | _, _, i + 1, .dat _ r, l, _, _, t => by simpa using rAsGet i r (by simpa using l) t
  | _, _, i + 1, .slot _ r, l, _, _, t => by simpa using rAsGet i r (by simpa using l) t
theorem pkAs {K : PySem.W.Frag} {F : Hp} {σ : St} {n : Nat} {vs : List V} {as : List Arg} (r : rAs K F σ vs as) (hl : vs.length = n) : ∀ {π : Pick}, pkOk K n π → rAs K F σ (pkV π vs) (pkA (forget π) as)
  | [], _ => .nil
  | .inl i :: π, h => rAsGet i r (by rw [hl]; exact h.1) (pkAs r hl h.2)
  | .inr t :: π, h => .dat (h.1.dv F) (pkAs r hl h.2)
def mPick (π : List (Nat ⊕ PyData)) (ms : M (List Arg)) : M (List Arg) := ms.bind fun as => M.ret (pkA π as)
def BindsP (K : PySem.W.Frag) (fd : FuncData) (ps ks : List Str) (n1 n2 : Nat) (π : Pick) : Prop := ∀ (s : Shared) (us ws : List Value), K.In s.heap → us.length = n1 → ws.length = n2 → BindsTo s fd ⟨us, ks.zip ws⟩ (ps.zip (pkU π (us ++ ws)))
section
variable {X : Cx} {C : Ct} {e a b : Expr} {es : List Expr} {pos p : Pos} {k : Nat} {f : Addr} {fd : FuncData} {ps ks : List Str} {x : Str} {n1 n2 n : Nat} {π : Pick} {sm : List (Nat ⊕ PyData)} {kws : List Keyword} {m : Fn}
theorem pick_eq (ms mk : M (List Arg)) (π : List (Nat ⊕ PyData)) (ρ : Rho) : mCall m (mPick π (mApp ms mk)) ρ = (ms.bind fun as => mk.bind fun bs => fun ρ => match argsS ρ (pkA π (as ++ bs)) with
    | some os => (match m (os.map some) with
      | .ok r _ => .ok r ρ
      | .ex x _ => .ex x ρ
      | .bad => .bad)
    | none => .bad) ρ := by
  unfold mCall mPick mApp M.bind M.ret
  cases ms ρ with
  | ok as ρ1 =>
    simp only
    cases mk ρ1 <;> rfl
  | _ => rfl
/-- what is asked of the values -/
theorem pick_go {ms mk : M (List Arg)} {σ : St} {ρ : Rho} {F0 H : Hp} {Q : VK} (hK : X.K = C.K) (ok : pkOk X.K (n1 + n2) π) (hn : π.length = n) (h1 : LenOk ms n1) (h2 : LenOk mk n2) (sr : SR C.K F0 H σ ρ) (pp : PostE C (rO C.K) σ ρ F0 H Q (mCall m (mPick (forget π) (mApp ms mk)) ρ)) :
    tL C ms σ H fun vs H1 => tL C mk σ H1 fun zs H2 => (vs.length = n1 ∧ zs.length = n2) ∧ spI X.K C.XR n m (pkV π (vs ++ zs)) H2 Q (WE C.W σ) := by
  refine ⟨F0, ρ, sr, ?_⟩
  rw [pick_eq] at pp
  refine PostE.part (RA := rL C.K) pp fun as ρ1 F1 H1 xs e1 q1 g1 s1 r1 => ?_
  have q1 := q1.on stb_O g1
  refine ⟨F1, ρ1, s1, PostE.part (RA := rL C.K) q1 fun bs ρ2 F2 H2 zs e2 q2 g2 s2 r2 => ?_⟩
  have q2 := q2.on stb_O g2
  have l1 : xs.length = n1 := by rw [r1.len]; exact h1 _ _ _ e1
  have l2 : zs.length = n2 := by rw [r2.len]; exact h2 _ _ _ e2
  refine ⟨⟨l1, l2⟩, ?_⟩
  have ra := pkAs ((rAs.mono g2.ext r1).append r2) (by rw [List.length_append, l1, l2]) (hK ▸ ok)
  cases ea : argsS ρ2 (pkA (forget π) (as ++ bs)) with
  | none => simp only [ea] at q2; exact q2.elim
  | some os =>
    simp only [ea] at q2
    obtain ⟨k1, k2⟩ := argsS_at s2 ra ea
    obtain ⟨sa, no⟩ := SR.args s2 k1 k2
    refine ⟨by rw [pkV, List.length_map, hn], F2, os, hK ▸ sa, ?_⟩
    rw [hK]
    cases e3 : m (os.map some) with
    | bad => simp only [e3] at q2; exact q2.elim
    | ok r ρa =>
      simp only [e3] at q2
      intro F' H' v g' s' ro
      obtain ⟨s3, g3⟩ := s2.after0 no g' s'.sub
      refine q2 F' H' v g3 s3 ⟨ro.1, fun io a ea => ?_⟩
      have hn : H2 a = none := ((ro.2 io a ea).2).resolve_right (no a)
      refine ⟨fun z => ?_, .inl hn⟩
      obtain ⟨_, u, hu⟩ := own.at s2 z
      rw [hn] at hu; cases hu
    | ex y ρa =>
      simp only [e3] at q2
      intro F' H' cls d g' s' xr
      obtain ⟨s3, g3⟩ := s2.after0 no g' s'.sub
      exact q2 F' H' cls d g3 s3 xr
theorem o_fnP {ms mk : M (List Arg)} (F : FnG X.prog X.w X.K X.mg X.base (L2.CX X.prog X.w) k f fd ps (spI X.K C.XR n m)) (hG : X.A.guards = some []) (hr : Room k X.A) (hg : Gl X x) (hm : X.mg x = some (.ref f)) (hk : PySem.W.keepIn X.K (.ref f) = true) (hb : BindsP X.K fd ps ks n1 n2 π) (ok : pkOk X.K (n1 + n2) π) (hn : π.length = n) (hs : forget π = sm) (tk : Takes X C.W) (ha : PA X (e :: es) (tL C ms)) (hkw : PK X kws (tL C mk))
    (h1 : LenOk ms n1) (h2 : LenOk mk n2) (hall : (backToKw pos (keywordEach kws X.env)).all (·.1.isSome) = true := by rfl) (hks : (backToKw pos (keywordEach kws X.env)).filterMap (·.1) = ks := by rfl)
    (hdb : (x == ("__debug__" : Str)) = false := by decide) (he : starEach (e :: es) X.env = (false, eval e X.env) :: starEach es X.env := by rfl)
    (hpl : ((backTo pos (starEach (e :: es) X.env)).any (·.1) || (backToKw pos (keywordEach kws X.env)).any (·.1.isNone)) = false := by rfl) (hK : X.K = C.K := by rfl) : PE X (.Call (.Name x p) (e :: es) kws pos) (tO C (mCall m (mPick sm (mApp ms mk)))) := by
  subst hs
  refine ⟨fun pins s σ H Q I ⟨F0, ρ, sr, pp⟩ => ?_⟩
  refine wpAny_Call_Name_kw (ld_glob I hg hm ?_ hdb)
  have go := pick_go hK ok hn h1 h2 sr pp
  refine PySem.W.callWith_KW (h₀ := X.base) I.ok.mod.kin hk hall (thn (ha.run pos pins s σ H _ I go) fun us s1 ⟨vs, H1, I1, r, q⟩ => ?_) hpl he
  refine thn (hkw.run pos pins s1 σ H1 _ I1 q) fun ws s2 ⟨zs, H2, I2, rz, ⟨l1, l2⟩, q2⟩ => ⟨I2.kIn, ?_⟩
  rw [hks]
  have bt := hb s2 us ws I2.kIn (by rw [← r.length]; exact l1) (by rw [← rz.length]; exact l2)
  refine wpAny_call (codeAny_mono (F.run X.A X.stack s2 H2 ⟨us, ks.zip ws⟩ _ (pkV π (vs ++ zs)) Q (WE C.W σ) hG hr I2.env0 bt (pkVals ok (r.append rz)) q2) fun res s' q => ?_)
  match res, q with
  | .error e, q => exact passAt tk σ pins H2 s2 e s' I2 q
  | .ok (.ret u), q => exact I2.after q
/-- no argument by its place -/
theorem o_fnP0 {mk : M (List Arg)} (F : FnG X.prog X.w X.K X.mg X.base (L2.CX X.prog X.w) k f fd ps (spI X.K C.XR n m)) (hG : X.A.guards = some []) (hr : Room k X.A) (hg : Gl X x) (hm : X.mg x = some (.ref f)) (hk : PySem.W.keepIn X.K (.ref f) = true) (hb : BindsP X.K fd ps ks 0 n2 π) (ok : pkOk X.K (0 + n2) π) (hn : π.length = n) (hs : forget π = sm) (tk : Takes X C.W) (hkw : PK X kws (tL C mk))
    (h2 : LenOk mk n2) (hall : (backToKw pos (keywordEach kws X.env)).all (·.1.isSome) = true := by rfl) (hks : (backToKw pos (keywordEach kws X.env)).filterMap (·.1) = ks := by rfl)
    (hdb : (x == ("__debug__" : Str)) = false := by decide)
    (hpl : ((backTo pos (starEach [] X.env)).any (·.1) || (backToKw pos (keywordEach kws X.env)).any (·.1.isNone)) = false := by rfl) (hK : X.K = C.K := by rfl) : PE X (.Call (.Name x p) [] kws pos) (tO C (mCall m (mPick sm (mApp mNil mk)))) := by
  subst hs
  refine ⟨fun pins s σ H Q I ⟨F0, ρ, sr, pp⟩ => ?_⟩
  refine wpAny_Call_Name_kw (ld_glob I hg hm ?_ hdb)
  obtain ⟨F1, ρ1, s1, go⟩ := pick_go hK ok hn (n1 := 0) ll_nil h2 sr pp
  have go := go F1 H [] Grow.refl s1 .nil
  refine PySem.W.callWith_KW0 (h₀ := X.base) I.ok.mod.kin hk hall ?_ hpl
  refine thn (hkw.run pos pins s σ H _ I go) fun ws s2 ⟨zs, H2, I2, rz, ⟨l1, l2⟩, q2⟩ => ⟨I2.kIn, ?_⟩
  rw [hks]
  have bt := hb s2 [] ws I2.kIn rfl (by rw [← rz.length]; exact l2)
  refine wpAny_call (codeAny_mono (F.run X.A X.stack s2 H2 ⟨[], ks.zip ws⟩ _ (pkV π ([] ++ zs)) Q (WE C.W σ) hG hr I2.env0 bt (pkVals ok rz) q2) fun res s' q => ?_)
  match res, q with
  | .error e, q => exact passAt tk σ pins H2 s2 e s' I2 q
  | .ok (.ret u), q => exact I2.after q
end
section
variable {ρ : Rho}
theorem v_pick (π : List (Nat ⊕ PyData)) (ms : M (List Arg)) : mPick π ms ρ = (ms ρ).go fun as => M.ret (pkA π as) := rfl
theorem v_pk0 (as : List Arg) : pkA [] as = [] := rfl
theorem v_pkl (i : Nat) (π : List (Nat ⊕ PyData)) (as : List Arg) : pkA (.inl i :: π) as = as.getD i (.dat .none) :: pkA π as := rfl
theorem v_pkr (d : PyData) (π : List (Nat ⊕ PyData)) (as : List Arg) : pkA (.inr d :: π) as = .dat d :: pkA π as := rfl
end
end Eg
namespace Eg
open PySem L2 PySem.W PySem.SeqAt
/-! ## great numbers -/
def wideB (i j : Int) : Prop := i.natAbs < 2 ^ 400000 ∧ j.natAbs < 2 ^ 400000
def aMulW (x y : PyData) : Option OD := match x, y with
  | .int i, .int j => if i.natAbs.log2 < 400000 ∧ j.natAbs.log2 < 400000 then some (.sh (.int (i * j))) else none
  | x, y => aMul x y
def gFloorW : PyData → PyData → Option PyData
  | .int i, .int j => if 0 < j ∧ j.natAbs.log2 < 8000 then some (.int (i / j)) else none
  | _, _ => none
theorem ao_mulW {X : Cx} : OpO X (binaryOp .Mult) aMulW := by
  intro pins s σ F H x y v u dx dy o Q I rx ry sub h1 h2 e q
  unfold aMulW at e
  split at e
  · split at e <;> cases e
    rename_i hz
    cases h1; cases h2
    exact op_mulW pins s σ H _ _ v u Q I rx ry ⟨_, _, rfl, rfl, by unfold CMulW; omega, q _ _ _ (.asis (.int _))⟩
  · exact ao_mul pins s σ F H x y v u dx dy o Q I rx ry sub h1 h2 e q
theorem od_floorW {X : Cx} : OpD X (binaryOp .FloorDiv) gFloorW := opd_int op_fdivW fun x y d e => by
  cases x <;> cases y <;> simp only [gFloorW] at e <;> first | cases e | skip
  split at e <;> cases e
  rename_i h
  exact ⟨_, _, rfl, rfl, ⟨h.1, by have := h.2; omega⟩, rfl⟩
theorem log_lt {i : Int} {k : Nat} (h : i.natAbs < 2 ^ k) (h0 : 0 < k) : i.natAbs.log2 < k := by
  by_cases z : i.natAbs = 0
  · rw [z]; show 0 < k; exact h0
  · exact (Nat.log2_lt z).mpr h
theorem gMulW_int {i j : Int} {a b : Nat} (h1 : i.natAbs < 2 ^ a) (h2 : j.natAbs < 2 ^ b) (ha : 0 < a ∧ a ≤ 400000 := by decide) (hb : 0 < b ∧ b ≤ 400000 := by decide) : aMulW (.int i) (.int j) = some (.sh (.int (i * j))) := by
  have x := log_lt h1 ha.1
  have y := log_lt h2 hb.1
  simp only [aMulW]
  rw [if_pos ⟨by omega, by omega⟩]
theorem gFloorW_int {i j : Int} {b : Nat} (h : 0 < j) (h2 : j.natAbs < 2 ^ b) (hb : 0 < b ∧ b ≤ 8000 := by decide) : gFloorW (.int i) (.int j) = some (.int (i / j)) := by
  have y := log_lt h2 hb.1
  simp only [gFloorW]
  rw [if_pos ⟨h, by omega⟩]
theorem aMulW_rep (xs : List PyData) (k : Int) (h : -(2 ^ 63) ≤ k ∧ k < 2 ^ 63 ∧ xs.length * k.toNat ≤ sizeLine) : aMulW (.list xs) (.int k) = some (.ol (List.replicate k.toNat xs).flatten) := if_pos h
end Eg
namespace Lw
open PySem L2 PySem.W PySem.SeqAt Eg
-- pairs_of of k02
def m_pairs_of : M Out := sSeq (sSet 1 (mL gSorted (mCons (mSlot 0) (mNil)))) (sRet (mL gTuple (mCons (((mComp2 ((mName 1).bind fun d => M.lift (enumD [d])) (tTup [tName 2, tName 3]) (M.ret true) (((mSl (mSlot 1) (((m2 aAdd (mSlot 2) ((M.ret (.int 1)).bind fun d => M.ret (.dat d))).bind fz).bind fun d => (asInt d).bind fun i => M.ret (some i)) (M.ret none)).bind fz).bind seqItems) (tName 4) (M.ret true) (mFix tupG (mCons ((mName 3).bind fun d => M.ret (.dat d)) (mCons ((mName 4).bind fun d => M.ret (.dat d)) (mNil)))) [2, 3, 4] [4]).bind fz).bind fun d => M.ret (.dat d)) (mNil))))
def fn_pairs_of : Fn := fnM 4 [false] m_pairs_of
-- home_of of k02
def m_home_of : M Out := sSeq (sUn (mName 0) (tTup [tName 1, tName 2])) (sRet ((m2 gIx (mSlot 2) ((M.ret (.int 0)).bind fun d => M.ret (.dat d))).bind fun d => M.ret (.sh d)))
def fn_home_of : Fn := fnM 2 [false] m_home_of
-- _law_tap of k02
def m_tap : M Out := sRet (mDisp (("cells", (mL gList (mCons (((mScr 0 (M.ret none) ((M.ret (.int 63)).bind fun d => (asInt d).bind fun i => M.ret (some i))).bind fz).bind fun d => M.ret (.dat d)) (mNil))).bind fz) :: ("spot", M.ret (.int 0)) :: ("rest", M.ret (.int 0)) :: ("calls", M.ret (.int 0)) :: []))
def fn_tap : Fn := fnM 0 [false] m_tap
-- _law_take of k02
def m_take : M Out := sSeq (sSet 2 (m2 aAdd ((mHas 0 (mDGet 0 (M.ret (.str "calls")))).bind fun d => M.ret (.dat d)) ((M.ret (.int 1)).bind fun d => M.ret (.dat d)))) (sSeq (sPut 0 (mName 2) (M.ret (.str "calls"))) (sSeq (sIf ((m2 gGt ((mHas 0 (mDGet 0 (M.ret (.str "rest")))).bind fun d => M.ret (.dat d)) ((M.ret (.int 0)).bind fun d => M.ret (.dat d))).bind asBool) (sSeq (sSet 3 ((m2 gMod ((mHas 0 (mDGet 0 (M.ret (.str "rest")))).bind fun d => M.ret (.dat d)) (mSlot 1)).bind fun d => M.ret (.sh d))) (sSeq (sPut 0 (m2 gFloor ((mHas 0 (mDGet 0 (M.ret (.str "rest")))).bind fun d => M.ret (.dat d)) (mSlot 1)) (M.ret (.str "rest"))) (sRet (mTake 3)))) (sNext)) (sSeq (sSet 4 ((mHas 0 (mDGet 0 (M.ret (.str "spot")))).bind fun d => M.ret (.sh d))) (sSeq (sPut 0 ((m2 aAdd (mSlot 4) ((M.ret (.int 1)).bind fun d => M.ret (.dat d))).bind fz) (M.ret (.str "spot"))) (sSeq (sSet 5 ((mHas 0 (mDGet 0 (M.ret (.str "cells")))).bind fun d => M.ret (.sh d))) (sSeq (sSet 6 (mIf ((m2 gGt (((mL gLen (mCons (mSlot 5) (mNil))).bind fz).bind fun d => M.ret (.dat d)) ((M.ret (.int 0)).bind fun d => M.ret (.dat d))).bind asBool) ((m2 gIx (mSlot 5) ((m2 gMod (mSlot 4) (((mL gLen (mCons (mSlot 5) (mNil))).bind fz).bind fun d => M.ret (.dat d))).bind fun d => M.ret (.dat d))).bind fun d => M.ret (.sh d)) ((M.ret (.int 11)).bind fun d => M.ret (.sh d)))) (sSeq (sIf (mAnd ((m2 gLt (mSlot 4) (((mL gLen (mCons (mSlot 5) (mNil))).bind fz).bind fun d => M.ret (.dat d))).bind asBool) ((m2 gGe (mSlot 6) ((m2 gPow ((M.ret (.int 10)).bind fun d => M.ret (.dat d)) ((M.ret (.int 18)).bind fun d => M.ret (.dat d))).bind fun d => M.ret (.dat d))).bind asBool)) (sSeq (sPut 0 (m2 gFloor (mSlot 6) (mSlot 1)) (M.ret (.str "rest"))) (sRet ((m2 gMod (mSlot 6) (mSlot 1)).bind fun d => M.ret (.sh d)))) (sNext)) (sSeq (sSet 7 ((m2 gMod ((m2 gPow (((m2 aAdd (((m2 aAdd ((m2 gMod (mSlot 6) ((M.ret (.int 2147483629)).bind fun d => M.ret (.dat d))).bind fun d => M.ret (.dat d)) (((m2 aMul ((M.ret (.int 6029)).bind fun d => M.ret (.dat d)) (mSlot 2)).bind fz).bind fun d => M.ret (.dat d))).bind fz).bind fun d => M.ret (.dat d)) ((M.ret (.int 17)).bind fun d => M.ret (.dat d))).bind fz).bind fun d => M.ret (.dat d)) ((M.ret (.int 5)).bind fun d => M.ret (.dat d))).bind fun d => M.ret (.dat d)) ((M.ret (.int 2147483647)).bind fun d => M.ret (.dat d))).bind fun d => M.ret (.sh d))) (sRet ((m2 gMod ((m2 gFloor ((m2 gMod ((m2 gPow (((m2 aAdd (mSlot 7) (((m2 aMul (((m2 aMul ((M.ret (.int 4111)).bind fun d => M.ret (.dat d)) (mSlot 2)).bind fz).bind fun d => M.ret (.dat d)) (mSlot 2)).bind fz).bind fun d => M.ret (.dat d))).bind fz).bind fun d => M.ret (.dat d)) ((M.ret (.int 5)).bind fun d => M.ret (.dat d))).bind fun d => M.ret (.dat d)) ((M.ret (.int 2147483587)).bind fun d => M.ret (.dat d))).bind fun d => M.ret (.dat d)) ((M.ret (.int 32)).bind fun d => M.ret (.dat d))).bind fun d => M.ret (.dat d)) (mSlot 1)).bind fun d => M.ret (.sh d)))))))))))
def fn_take : Fn := fnM 6 [true, false] m_take
-- _law_towns of k02
def m_towns : M Out := sSeq (sSet 2 (mFix lstG (mCons ((M.ret (.str "ash")).bind fun d => M.ret (.dat d)) (mCons ((M.ret (.str "b")).bind fun d => M.ret (.dat d)) (mCons ((M.ret (.str "elm")).bind fun d => M.ret (.dat d)) (mCons ((M.ret (.str "oak")).bind fun d => M.ret (.dat d)) (mCons ((M.ret (.str "zzzzzzzz")).bind fun d => M.ret (.dat d)) (mNil)))))))) (sSeq (sSet 3 (mL gMin (mCons ((M.ret (.int 4)).bind fun d => M.ret (.dat d)) (mCons (((m2 aAdd (mSlot 1) (((mCallO fn_take (mCons (mSlot 0) (mCons ((M.ret (.int 3)).bind fun d => M.ret (.dat d)) (mNil)))).bind fz).bind fun d => M.ret (.dat d))).bind fz).bind fun d => M.ret (.dat d)) (mNil))))) (sSeq (sWhile ((m2 gGt (((mL gLen (mCons (mSlot 2) (mNil))).bind fz).bind fun d => M.ret (.dat d)) (mSlot 3)).bind asBool) (sExpr (mOl 2 (mPopAt 2 ((mCallO fn_take (mCons (mSlot 0) (mCons (((mL gLen (mCons (mSlot 2) (mNil))).bind fz).bind fun d => M.ret (.dat d)) (mNil)))).bind fz)))) 100) (sRet (mTake 2))))
def fn_towns : Fn := fnM 2 [true, false] m_towns
-- _law_seats of k02
def m_seats : M Out := sSeq (sPar 3 4 (mFix lstG (mNil)) (mFix lstG (mNil))) (sSeq (sFor ((mName 1).bind seqItems) (tName 5) (sSet 3 (m2 aAdd (mSlot 3) (((mComp (((mFix lstG (mCons ((M.ret (.str "a")).bind fun d => M.ret (.dat d)) (mCons ((M.ret (.str "ann")).bind fun d => M.ret (.dat d)) (mCons ((M.ret (.str "z")).bind fun d => M.ret (.dat d)) (mNil))))).bind fz).bind seqItems) (tName 7) (M.ret true) (mFix tupG (mCons ((mName 5).bind fun d => M.ret (.dat d)) (mCons ((mName 7).bind fun d => M.ret (.dat d)) (mNil)))) [7]).bind fz).bind fun d => M.ret (.dat d))))) (sSeq (sFor (mL rng1 (mCons (((mL gMin (mCons (mSlot 2) (mCons (((mL gLen (mCons (mSlot 3) (mNil))).bind fz).bind fun d => M.ret (.dat d)) (mNil)))).bind fz).bind fun d => M.ret (.dat d)) (mNil))) (tName 6) (sExpr (mOl 4 (mAppend 4 (mOl 3 (mPopAt 3 ((mCallO fn_take (mCons (mSlot 0) (mCons (((mL gLen (mCons (mSlot 3) (mNil))).bind fz).bind fun d => M.ret (.dat d)) (mNil)))).bind fz))))))) (sRet (mTake 4))))
def fn_seats : Fn := fnM 5 [true, false, false] m_seats
-- _law_twos of k02
def m_twos : M Out := sSeq (sSet 1 (mFix lstG (mNil))) (sSeq (sFor (mL rng1 (mCons (((mL gLen (mCons (mSlot 0) (mNil))).bind fz).bind fun d => M.ret (.dat d)) (mNil))) (tName 2) (sSet 1 (m2 aAdd (mSlot 1) (((mComp (((mSl (mSlot 0) (((m2 aAdd (mSlot 2) ((M.ret (.int 1)).bind fun d => M.ret (.dat d))).bind fz).bind fun d => (asInt d).bind fun i => M.ret (some i)) (M.ret none)).bind fz).bind seqItems) (tName 3) (M.ret true) (mFix tupG (mCons (((mL gMin (mCons ((m2 gIx (mSlot 0) (mSlot 2)).bind fun d => M.ret (.dat d)) (mCons (mSlot 3) (mNil)))).bind fz).bind fun d => M.ret (.dat d)) (mCons (((mL gMax (mCons ((m2 gIx (mSlot 0) (mSlot 2)).bind fun d => M.ret (.dat d)) (mCons (mSlot 3) (mNil)))).bind fz).bind fun d => M.ret (.dat d)) (mNil)))) [3]).bind fz).bind fun d => M.ret (.dat d))))) (sRet (mL gSorted (mCons (mSlot 1) (mNil)))))
def fn_twos : Fn := fnM 3 [false] m_twos
-- law of k02
def m_law : M Out := sSeq (sSet 1 (mCall fn_tap (mCons (mSlot 0) (mNil)))) (sSeq (sFor (mL rng1 (mCons ((M.ret (.int 4)).bind fun d => M.ret (.dat d)) (mNil))) (tName 2) (sSeq (sSet 3 (mCallO fn_towns (mCons (mSlot 1) (mCons (((m2 aAdd ((M.ret (.int 1)).bind fun d => M.ret (.dat d)) ((m2 gMod (mSlot 2) ((M.ret (.int 2)).bind fun d => M.ret (.dat d))).bind fun d => M.ret (.dat d))).bind fz).bind fun d => M.ret (.dat d)) (mNil))))) (sSeq (sSet 4 (mCallO fn_seats (mCons (mSlot 1) (mCons ((mName 3).bind fun d => M.ret (.dat d)) (mCons ((m2 gIx (((mFix lstG (mCons (((mCallO fn_take (mCons (mSlot 1) (mCons ((M.ret (.int 4)).bind fun d => M.ret (.dat d)) (mNil)))).bind fz).bind fun d => M.ret (.dat d)) (mCons ((M.ret (.int 12)).bind fun d => M.ret (.dat d)) (mNil)))).bind fz).bind fun d => M.ret (.dat d)) (((mCallO fn_take (mCons (mSlot 1) (mCons ((M.ret (.int 2)).bind fun d => M.ret (.dat d)) (mNil)))).bind fz).bind fun d => M.ret (.dat d))).bind fun d => M.ret (.dat d)) (mNil)))))) (sSeq (sSet 4 (mIf ((m2 gLt (((mL gLen (mCons (mSlot 4) (mNil))).bind fz).bind fun d => M.ret (.dat d)) ((M.ret (.int 11)).bind fun d => M.ret (.dat d))).bind asBool) (m2 aAdd (mSlot 4) (((mSl (((mFix lstG (mCons ((mFix tupG (mCons ((M.ret (.str "a")).bind fun d => M.ret (.dat d)) (mCons ((M.ret (.str "b")).bind fun d => M.ret (.dat d)) (mNil)))).bind fun d => M.ret (.dat d)) (mCons ((mFix tupG (mCons ((M.ret (.str "ab")).bind fun d => M.ret (.dat d)) (mCons ((M.ret (.str "a")).bind fun d => M.ret (.dat d)) (mNil)))).bind fun d => M.ret (.dat d)) (mNil)))).bind fz).bind fun d => M.ret (.dat d)) (M.ret none) (((mCallO fn_take (mCons (mSlot 1) (mCons ((M.ret (.int 3)).bind fun d => M.ret (.dat d)) (mNil)))).bind fz).bind fun d => (asInt d).bind fun i => M.ret (some i))).bind fz).bind fun d => M.ret (.dat d))) ((mName 4).bind fun d => M.ret (.sh d)))) (sSeq (sPar 5 6 (mL gRepr (mCons (mSlot 4) (mNil))) (mL gTuple (mCons (((mCall fn_twos (mCons ((mName 4).bind fun d => M.ret (.dat d)) (mNil))).bind fz).bind fun d => M.ret (.dat d)) (mNil)))) (sSeq (sFor ((mFix tupG (mCons ((mName 4).bind fun d => M.ret (.dat d)) (mCons (((m1 gRev (mSlot 4)).bind fz).bind fun d => M.ret (.dat d)) (mCons (((mL gSorted (mCons (mSlot 4) (mNil))).bind fz).bind fun d => M.ret (.dat d)) (mNil))))).bind seqItems) (tName 7) (sIf ((m2 gNe (((mL gRepr (mCons (((mCall fn_pairs_of (mCons (((mL gTuple (mCons (mSlot 7) (mNil))).bind fz).bind fun d => M.ret (.dat d)) (mNil))).bind fz).bind fun d => M.ret (.dat d)) (mNil))).bind fz).bind fun d => M.ret (.dat d)) (((mL gRepr (mCons (mSlot 6) (mNil))).bind fz).bind fun d => M.ret (.dat d))).bind asBool) (sRet ((M.ret (.bool false)).bind fun d => M.ret (.sh d))) (sNext))) (sSeq (sSet 8 (mL gLen (mCons (mSlot 4) (mNil)))) (sSeq (sIf (mOr ((m2 gNe (((mL gLen (mCons (mSlot 6) (mNil))).bind fz).bind fun d => M.ret (.dat d)) ((m2 gFloor (((m2 aMul (mSlot 8) ((m2 gSub (mSlot 8) ((M.ret (.int 1)).bind fun d => M.ret (.dat d))).bind fun d => M.ret (.dat d))).bind fz).bind fun d => M.ret (.dat d)) ((M.ret (.int 2)).bind fun d => M.ret (.dat d))).bind fun d => M.ret (.dat d))).bind asBool) ((m2 gNe (((mL gRepr (mCons (mSlot 4) (mNil))).bind fz).bind fun d => M.ret (.dat d)) (mSlot 5)).bind asBool)) (sRet ((M.ret (.bool false)).bind fun d => M.ret (.sh d))) (sNext)) (sFor ((mName 6).bind seqItems) (tName 9) (sIf (mOr (mNot ((m2 gLt ((m2 gIx (mSlot 9) ((M.ret (.int 0)).bind fun d => M.ret (.dat d))).bind fun d => M.ret (.dat d)) ((m2 gIx (mSlot 9) ((M.ret (.int 1)).bind fun d => M.ret (.dat d))).bind fun d => M.ret (.dat d))).bind asBool)) ((m2 gNe (((mCall fn_home_of (mCons ((mName 9).bind fun d => M.ret (.dat d)) (mNil))).bind fz).bind fun d => M.ret (.dat d)) ((m2 gIx ((m2 gIx (mSlot 9) ((M.ret (.int 1)).bind fun d => M.ret (.dat d))).bind fun d => M.ret (.dat d)) ((M.ret (.int 0)).bind fun d => M.ret (.dat d))).bind fun d => M.ret (.dat d))).bind asBool)) (sRet ((M.ret (.bool false)).bind fun d => M.ret (.sh d))) (sNext))))))))))) (sRet ((m2 gEq (((mL gRepr (mCons (((mCall fn_pairs_of (mCons ((mFix tupG (mNil)).bind fun d => M.ret (.dat d)) (mNil))).bind fz).bind fun d => M.ret (.dat d)) (mNil))).bind fz).bind fun d => M.ret (.dat d)) ((M.ret (.str "()")).bind fun d => M.ret (.dat d))).bind fun d => M.ret (.sh d))))
def fn_law : Fn := fnM 9 [false] m_law
end Lw
namespace Lw
open PySem L2 PySem.W PySem.SeqAt Eg
-- row_of of k03
def m_row_of : M Out := sSeq (sUn (mName 0) (tTup [tName 3, tName 4, tName 5])) (sSeq (sFor ((mName 5).bind seqItems) (tName 6) (sIf ((m2 gEq ((m2 gIx (mSlot 6) ((M.ret (.int 0)).bind fun d => M.ret (.dat d))).bind fun d => M.ret (.dat d)) (mSlot 2)).bind asBool) (sRet (mTake 6)) (sNext))) (sSeq (sSet 7 (mCall fn_home_of (mCons ((mName 2).bind fun d => M.ret (.dat d)) (mNil)))) (sSeq (sIf ((m2 gEq (mSlot 1) (mSlot 7)).bind asBool) (sRet ((mFix tupG (mCons ((mName 2).bind fun d => M.ret (.dat d)) (mCons ((mFix tupG (mCons ((mName 3).bind fun d => M.ret (.dat d)) (mCons ((M.ret (.int 0)).bind fun d => M.ret (.dat d)) (mNil)))).bind fun d => M.ret (.dat d)) (mCons ((mName 7).bind fun d => M.ret (.dat d)) (mCons ((mName 7).bind fun d => M.ret (.dat d)) (mCons ((M.ret (.int 0)).bind fun d => M.ret (.dat d)) (mCons ((mName 4).bind fun d => M.ret (.dat d)) (mCons ((M.ret (.bool true)).bind fun d => M.ret (.dat d)) (mNil))))))))).bind fun d => M.ret (.sh d))) (sNext)) (sRet ((mFix tupG (mCons ((mName 2).bind fun d => M.ret (.dat d)) (mCons ((mFix tupG (mCons ((M.ret (.int 0)).bind fun d => M.ret (.dat d)) (mCons ((M.ret (.int 0)).bind fun d => M.ret (.dat d)) (mNil)))).bind fun d => M.ret (.dat d)) (mCons ((mName 7).bind fun d => M.ret (.dat d)) (mCons ((mName 7).bind fun d => M.ret (.dat d)) (mCons ((M.ret (.int 0)).bind fun d => M.ret (.dat d)) (mCons ((M.ret (.int 0)).bind fun d => M.ret (.dat d)) (mCons ((M.ret (.bool false)).bind fun d => M.ret (.dat d)) (mNil))))))))).bind fun d => M.ret (.sh d))))))
def fn_row_of : Fn := fnM 5 [false, false, false] m_row_of
-- holds of k03
def m_holds : M Out := sSeq (sUn (mName 0) (tTup [tName 2, tName 2, tName 3, tName 2, tName 2, tName 2, tName 4])) (sRet ((mAndV (m2 gEq (mSlot 3) (mSlot 1)) (mName 4)).bind fun d => M.ret (.sh d)))
def fn_holds : Fn := fnM 3 [false, false] m_holds
-- is_mine of k03
def m_is_mine : M Out := sRet (mCall fn_holds (mCons (((mCall fn_row_of (mCons ((mName 0).bind fun d => M.ret (.dat d)) (mCons ((mName 1).bind fun d => M.ret (.dat d)) (mCons ((mName 2).bind fun d => M.ret (.dat d)) (mNil))))).bind fz).bind fun d => M.ret (.dat d)) (mCons ((mName 1).bind fun d => M.ret (.dat d)) (mNil))))
def fn_is_mine : Fn := fnM 0 [false, false, false] m_is_mine
-- burn_bars of k03
def m_burn_bars : M Out := sSeq (sSet 4 (mCall fn_row_of (mCons ((mName 0).bind fun d => M.ret (.dat d)) (mCons ((mName 1).bind fun d => M.ret (.dat d)) (mCons ((mName 2).bind fun d => M.ret (.dat d)) (mNil)))))) (sSeq (sUn (mName 4) (tTup [tName 5, tName 5, tName 6, tName 5, tName 5, tName 7, tName 5])) (sSeq (sIf (mNot (((mCall fn_holds (mCons ((mName 4).bind fun d => M.ret (.dat d)) (mCons ((mName 1).bind fun d => M.ret (.dat d)) (mNil)))).bind fz).bind asBool)) (sRet (mTake 6)) (sNext)) (sSeq (sIf ((m2 gGt (mSlot 7) (mSlot 3)).bind asBool) (sRet (mTake 7)) (sNext)) (sRet ((M.ret .none).bind fun d => M.ret (.sh d))))))
def fn_burn_bars : Fn := fnM 4 [false, false, false, false] m_burn_bars
-- _law_row of k03
def m_row : M Out := sSeq (sSet 3 ((mFix tupG (mCons (((mCallO fn_take (mCons (mSlot 0) (mCons ((M.ret (.int 3)).bind fun d => M.ret (.dat d)) (mNil)))).bind fz).bind fun d => M.ret (.dat d)) (mCons (((mCallO fn_take (mCons (mSlot 0) (mCons ((M.ret (.int 4)).bind fun d => M.ret (.dat d)) (mNil)))).bind fz).bind fun d => M.ret (.dat d)) (mNil)))).bind fun d => M.ret (.sh d))) (sSeq (sPar 4 5 ((m2 gIx (mSlot 2) (((mCallO fn_take (mCons (mSlot 0) (mCons (((mL gLen (mCons (mSlot 2) (mNil))).bind fz).bind fun d => M.ret (.dat d)) (mNil)))).bind fz).bind fun d => M.ret (.dat d))).bind fun d => M.ret (.sh d)) ((m2 gIx (mSlot 2) (((mCallO fn_take (mCons (mSlot 0) (mCons (((mL gLen (mCons (mSlot 2) (mNil))).bind fz).bind fun d => M.ret (.dat d)) (mNil)))).bind fz).bind fun d => M.ret (.dat d))).bind fun d => M.ret (.sh d))) (sRet ((mFix tupG (mCons ((mName 1).bind fun d => M.ret (.dat d)) (mCons ((mName 3).bind fun d => M.ret (.dat d)) (mCons ((mName 4).bind fun d => M.ret (.dat d)) (mCons ((mName 5).bind fun d => M.ret (.dat d)) (mCons (((mCallO fn_take (mCons (mSlot 0) (mCons ((M.ret (.int 3)).bind fun d => M.ret (.dat d)) (mNil)))).bind fz).bind fun d => M.ret (.dat d)) (mCons (((mCallO fn_take (mCons (mSlot 0) (mCons ((M.ret (.int 30)).bind fun d => M.ret (.dat d)) (mNil)))).bind fz).bind fun d => M.ret (.dat d)) (mCons ((m2 gEq (((mCallO fn_take (mCons (mSlot 0) (mCons ((M.ret (.int 2)).bind fun d => M.ret (.dat d)) (mNil)))).bind fz).bind fun d => M.ret (.dat d)) ((M.ret (.int 0)).bind fun d => M.ret (.dat d))).bind fun d => M.ret (.dat d)) (mNil))))))))).bind fun d => M.ret (.sh d))))
def fn_row : Fn := fnM 3 [true, false, false] m_row
-- _law_lot of k03
def m_lot : M Out := sSeq (sSet 3 (mL gTuple (mCons (((mComp ((mName 1).bind seqItems) (tName 4) ((m2 gGt (((mCallO fn_take (mCons (mSlot 0) (mCons ((M.ret (.int 3)).bind fun d => M.ret (.dat d)) (mNil)))).bind fz).bind fun d => M.ret (.dat d)) ((M.ret (.int 0)).bind fun d => M.ret (.dat d))).bind asBool) ((mCallO fn_row (mCons (mSlot 0) (mCons ((mName 4).bind fun d => M.ret (.dat d)) (mCons ((mName 2).bind fun d => M.ret (.dat d)) (mNil))))).bind fz) [4]).bind fz).bind fun d => M.ret (.dat d)) (mNil)))) (sRet ((mFix tupG (mCons (((mCallO fn_take (mCons (mSlot 0) (mCons ((M.ret (.int 3)).bind fun d => M.ret (.dat d)) (mNil)))).bind fz).bind fun d => M.ret (.dat d)) (mCons (((mCallO fn_take (mCons (mSlot 0) (mCons ((M.ret (.int 30)).bind fun d => M.ret (.dat d)) (mNil)))).bind fz).bind fun d => M.ret (.dat d)) (mCons ((mName 3).bind fun d => M.ret (.dat d)) (mNil))))).bind fun d => M.ret (.sh d)))
def fn_lot : Fn := fnM 2 [true, false, false] m_lot
-- _law_own of k03
def m_own : M Out := sSeq (sSet 3 (mComp ((m2 gIx (mSlot 0) ((M.ret (.int 2)).bind fun d => M.ret (.dat d))).bind seqItems) (tName 5) ((m2 gEq ((m2 gIx (mSlot 5) ((M.ret (.int 0)).bind fun d => M.ret (.dat d))).bind fun d => M.ret (.dat d)) (mSlot 2)).bind asBool) (mName 5) [5])) (sSeq (sIf ((m2 gNe (mSlot 3) (((mFix lstG (mNil)).bind fz).bind fun d => M.ret (.dat d))).bind asBool) (sRet ((m2 gIx (mSlot 3) ((M.ret (.int 0)).bind fun d => M.ret (.dat d))).bind fun d => M.ret (.sh d))) (sNext)) (sSeq (sSet 4 ((m2 gIx ((m2 gIx (mSlot 2) ((M.ret (.int 1)).bind fun d => M.ret (.dat d))).bind fun d => M.ret (.dat d)) ((M.ret (.int 0)).bind fun d => M.ret (.dat d))).bind fun d => M.ret (.sh d))) (sSeq (sIf ((m2 gEq (mSlot 4) (mSlot 1)).bind asBool) (sRet ((mFix tupG (mCons ((mName 2).bind fun d => M.ret (.dat d)) (mCons ((mFix tupG (mCons ((m2 gIx (mSlot 0) ((M.ret (.int 0)).bind fun d => M.ret (.dat d))).bind fun d => M.ret (.dat d)) (mCons ((M.ret (.int 0)).bind fun d => M.ret (.dat d)) (mNil)))).bind fun d => M.ret (.dat d)) (mCons ((mName 4).bind fun d => M.ret (.dat d)) (mCons ((mName 4).bind fun d => M.ret (.dat d)) (mCons ((M.ret (.int 0)).bind fun d => M.ret (.dat d)) (mCons ((m2 gIx (mSlot 0) ((M.ret (.int 1)).bind fun d => M.ret (.dat d))).bind fun d => M.ret (.dat d)) (mCons ((M.ret (.bool true)).bind fun d => M.ret (.dat d)) (mNil))))))))).bind fun d => M.ret (.sh d))) (sNext)) (sRet ((mFix tupG (mCons ((mName 2).bind fun d => M.ret (.dat d)) (mCons ((mFix tupG (mCons ((M.ret (.int 0)).bind fun d => M.ret (.dat d)) (mCons ((M.ret (.int 0)).bind fun d => M.ret (.dat d)) (mNil)))).bind fun d => M.ret (.dat d)) (mCons ((mName 4).bind fun d => M.ret (.dat d)) (mCons ((mName 4).bind fun d => M.ret (.dat d)) (mCons ((M.ret (.int 0)).bind fun d => M.ret (.dat d)) (mCons ((M.ret (.int 0)).bind fun d => M.ret (.dat d)) (mCons ((M.ret (.bool false)).bind fun d => M.ret (.dat d)) (mNil))))))))).bind fun d => M.ret (.sh d))))))
def fn_own : Fn := fnM 3 [false, false, false] m_own
-- _law_bar of k03
def m_bar : M Out := sSeq (sSet 4 (mCall fn_own (mCons ((mName 0).bind fun d => M.ret (.dat d)) (mCons ((mName 1).bind fun d => M.ret (.dat d)) (mCons ((mName 2).bind fun d => M.ret (.dat d)) (mNil)))))) (sSeq (sIf (mOr ((m2 gNe ((m2 gIx (mSlot 4) ((M.ret (.int 2)).bind fun d => M.ret (.dat d))).bind fun d => M.ret (.dat d)) (mSlot 1)).bind asBool) (mNot ((m2 gIx (mSlot 4) ((M.ret (.int 6)).bind fun d => M.ret (.dat d))).bind asBool))) (sRet ((m2 gIx (mSlot 4) ((M.ret (.int 2)).bind fun d => M.ret (.dat d))).bind fun d => M.ret (.sh d))) (sNext)) (sRet (mIf ((m2 gGt ((m2 gIx (mSlot 4) ((M.ret (.int 5)).bind fun d => M.ret (.dat d))).bind fun d => M.ret (.dat d)) (mSlot 3)).bind asBool) ((m2 gIx (mSlot 4) ((M.ret (.int 5)).bind fun d => M.ret (.dat d))).bind fun d => M.ret (.sh d)) ((M.ret .none).bind fun d => M.ret (.sh d)))))
def fn_bar : Fn := fnM 1 [false, false, false, false] m_bar
-- _law_wide of k03
def m_wide : M Out := sSeq (sSet 1 (mFix lstG (mNil))) (sSeq (sFor ((mFix tupG (mCons ((M.ret (.str "ash")).bind fun d => M.ret (.dat d)) (mCons ((M.ret (.str "b")).bind fun d => M.ret (.dat d)) (mCons ((M.ret (.str "elm")).bind fun d => M.ret (.dat d)) (mCons ((M.ret (.str "oak")).bind fun d => M.ret (.dat d)) (mNil)))))).bind seqItems) (tName 2) (sSet 1 (m2 aAdd (mSlot 1) (((mComp ((mFix tupG (mCons ((M.ret (.str "a")).bind fun d => M.ret (.dat d)) (mCons ((M.ret (.str "ann")).bind fun d => M.ret (.dat d)) (mCons ((M.ret (.str "z")).bind fun d => M.ret (.dat d)) (mNil))))).bind seqItems) (tName 6) (M.ret true) (mFix tupG (mCons ((mName 2).bind fun d => M.ret (.dat d)) (mCons ((mName 6).bind fun d => M.ret (.dat d)) (mNil)))) [6]).bind fz).bind fun d => M.ret (.dat d))))) (sSeq (sSet 3 (mFix lstG (mNil))) (sSeq (sFor (((mCall fn_twos (mCons ((mName 1).bind fun d => M.ret (.dat d)) (mNil))).bind fz).bind fun d => M.lift (enumD [d])) (tTup [tName 4, tName 5]) (sExpr (mOl 3 (mAppend 3 (mFix tupG (mCons ((mName 5).bind fun d => M.ret (.dat d)) (mCons ((mFix tupG (mCons ((M.ret (.int 3)).bind fun d => M.ret (.dat d)) (mCons (((m2 aAdd ((m2 gPow ((M.ret (.int 10)).bind fun d => M.ret (.dat d)) ((M.ret (.int 30)).bind fun d => M.ret (.dat d))).bind fun d => M.ret (.dat d)) (mSlot 4)).bind fz).bind fun d => M.ret (.dat d)) (mNil)))).bind fun d => M.ret (.dat d)) (mCons ((mName 0).bind fun d => M.ret (.dat d)) (mCons ((M.ret (.str "oak")).bind fun d => M.ret (.dat d)) (mCons ((M.ret (.int 120)).bind fun d => M.ret (.dat d)) (mCons (((m2 aAdd ((M.ret (.int 9900)).bind fun d => M.ret (.dat d)) ((m2 gMod (mSlot 4) ((M.ret (.int 50)).bind fun d => M.ret (.dat d))).bind fun d => M.ret (.dat d))).bind fz).bind fun d => M.ret (.dat d)) (mCons ((M.ret (.bool true)).bind fun d => M.ret (.dat d)) (mNil))))))))))))) (sRet ((mFix tupG (mCons ((M.ret (.int 122)).bind fun d => M.ret (.dat d)) (mCons ((M.ret (.int 9999)).bind fun d => M.ret (.dat d)) (mCons (((mL gTuple (mCons (mSlot 3) (mNil))).bind fz).bind fun d => M.ret (.dat d)) (mNil))))).bind fun d => M.ret (.sh d))))))
def fn_wide : Fn := fnM 6 [false] m_wide
-- law of k03
def m_law_2 : M Out := sSeq (sSet 1 (mCall fn_tap (mCons (mSlot 0) (mNil)))) (sSeq (sFor (mL rng1 (mCons ((M.ret (.int 4)).bind fun d => M.ret (.dat d)) (mNil))) (tName 2) (sSeq (sSet 3 (mCallO fn_towns (mCons (mSlot 1) (mCons (((m2 aAdd ((M.ret (.int 1)).bind fun d => M.ret (.dat d)) ((m2 gMod (mSlot 2) ((M.ret (.int 2)).bind fun d => M.ret (.dat d))).bind fun d => M.ret (.dat d))).bind fz).bind fun d => M.ret (.dat d)) (mNil))))) (sSeq (sSet 4 (mCall fn_twos (mCons (((m2 aAdd (((mCallO fn_seats (mCons (mSlot 1) (mCons ((mName 3).bind fun d => M.ret (.dat d)) (mCons ((M.ret (.int 4)).bind fun d => M.ret (.dat d)) (mNil))))).bind fz).bind fun d => M.ret (.dat d)) (((mFix lstG (mCons ((mFix tupG (mCons ((M.ret (.str "far")).bind fun d => M.ret (.dat d)) (mCons ((M.ret (.str "a")).bind fun d => M.ret (.dat d)) (mNil)))).bind fun d => M.ret (.dat d)) (mNil))).bind fz).bind fun d => M.ret (.dat d))).bind fz).bind fun d => M.ret (.dat d)) (mNil)))) (sSeq (sSet 5 ((m2 gIx (((mFix lstG (mCons (((mCallO fn_lot (mCons (mSlot 1) (mCons ((mName 4).bind fun d => M.ret (.dat d)) (mCons ((mName 3).bind fun d => M.ret (.dat d)) (mNil))))).bind fz).bind fun d => M.ret (.dat d)) (mCons ((mFix tupG (mCons ((M.ret (.int 0)).bind fun d => M.ret (.dat d)) (mCons ((M.ret (.int 0)).bind fun d => M.ret (.dat d)) (mCons ((mFix tupG (mNil)).bind fun d => M.ret (.dat d)) (mNil))))).bind fun d => M.ret (.dat d)) (mCons (((m2 aAdd (((mSl (((mCallO fn_lot (mCons (mSlot 1) (mCons ((mName 4).bind fun d => M.ret (.dat d)) (mCons ((mName 3).bind fun d => M.ret (.dat d)) (mNil))))).bind fz).bind fun d => M.ret (.dat d)) (M.ret none) ((M.ret (.int 2)).bind fun d => (asInt d).bind fun i => M.ret (some i))).bind fz).bind fun d => M.ret (.dat d)) ((mFix tupG (mCons ((mFix tupG (mNil)).bind fun d => M.ret (.dat d)) (mNil))).bind fun d => M.ret (.dat d))).bind fz).bind fun d => M.ret (.dat d)) (mNil))))).bind fz).bind fun d => M.ret (.dat d)) (((mCallO fn_take (mCons (mSlot 1) (mCons ((M.ret (.int 3)).bind fun d => M.ret (.dat d)) (mNil)))).bind fz).bind fun d => M.ret (.dat d))).bind fun d => M.ret (.sh d))) (sSeq (sSet 6 (mL gRepr (mCons (mSlot 5) (mNil)))) (sSeq (sFor (((m2 aAdd (mSlot 3) (((mFix lstG (mCons ((M.ret (.str "far")).bind fun d => M.ret (.dat d)) (mCons ((M.ret (.str "q")).bind fun d => M.ret (.dat d)) (mNil)))).bind fz).bind fun d => M.ret (.dat d))).bind fz).bind seqItems) (tName 7) (sFor (((mSl (mSlot 4) (M.ret none) ((M.ret (.int 6)).bind fun d => (asInt d).bind fun i => M.ret (some i))).bind fz).bind seqItems) (tName 8) (sSeq (sSet 9 (mCall fn_own (mCons ((mName 5).bind fun d => M.ret (.dat d)) (mCons ((mName 7).bind fun d => M.ret (.dat d)) (mCons ((mName 8).bind fun d => M.ret (.dat d)) (mNil)))))) (sSeq (sSet 10 (mFix lstG (mCons (((mCall fn_row_of (mCons ((mName 5).bind fun d => M.ret (.dat d)) (mCons ((mName 7).bind fun d => M.ret (.dat d)) (mCons ((mName 8).bind fun d => M.ret (.dat d)) (mNil))))).bind fz).bind fun d => M.ret (.dat d)) (mCons (((mCall fn_is_mine (mCons ((mName 5).bind fun d => M.ret (.dat d)) (mCons ((mName 7).bind fun d => M.ret (.dat d)) (mCons ((mName 8).bind fun d => M.ret (.dat d)) (mNil))))).bind fz).bind fun d => M.ret (.dat d)) (mNil))))) (sSeq (sIf ((m2 gNe (((mL gRepr (mCons (mSlot 10) (mNil))).bind fz).bind fun d => M.ret (.dat d)) (((mL gRepr (mCons (((mFix lstG (mCons ((mName 9).bind fun d => M.ret (.dat d)) (mCons ((mAndV (m2 gEq ((m2 gIx (mSlot 9) ((M.ret (.int 2)).bind fun d => M.ret (.dat d))).bind fun d => M.ret (.dat d)) (mSlot 7)) (m2 gIx (mSlot 9) ((M.ret (.int 6)).bind fun d => M.ret (.dat d)))).bind fun d => M.ret (.dat d)) (mNil)))).bind fz).bind fun d => M.ret (.dat d)) (mNil))).bind fz).bind fun d => M.ret (.dat d))).bind asBool) (sRet ((M.ret (.bool false)).bind fun d => M.ret (.sh d))) (sNext)) (sFor ((mFix tupG (mCons ((M.ret (.int 0)).bind fun d => M.ret (.dat d)) (mCons ((m2 gIx (mSlot 9) ((M.ret (.int 5)).bind fun d => M.ret (.dat d))).bind fun d => M.ret (.dat d)) (mCons (((m2 aAdd ((m2 gIx (mSlot 9) ((M.ret (.int 5)).bind fun d => M.ret (.dat d))).bind fun d => M.ret (.dat d)) ((M.ret (.int 1)).bind fun d => M.ret (.dat d))).bind fz).bind fun d => M.ret (.dat d)) (mCons (((mL gMax (mCons ((M.ret (.int 0)).bind fun d => M.ret (.dat d)) (mCons ((m2 gSub ((m2 gIx (mSlot 9) ((M.ret (.int 5)).bind fun d => M.ret (.dat d))).bind fun d => M.ret (.dat d)) ((M.ret (.int 1)).bind fun d => M.ret (.dat d))).bind fun d => M.ret (.dat d)) (mNil)))).bind fz).bind fun d => M.ret (.dat d)) (mCons (((mCallO fn_take (mCons (mSlot 1) (mCons ((M.ret (.int 40)).bind fun d => M.ret (.dat d)) (mNil)))).bind fz).bind fun d => M.ret (.dat d)) (mNil))))))).bind seqItems) (tName 11) (sIf ((m2 gNe (((mL gRepr (mCons (((mCall fn_burn_bars (mApp (mCons ((mName 5).bind fun d => M.ret (.dat d)) (mCons ((mName 7).bind fun d => M.ret (.dat d)) (mCons ((mName 8).bind fun d => M.ret (.dat d)) (mNil)))) (mCons ((mName 11).bind fun d => M.ret (.dat d)) (mNil)))).bind fz).bind fun d => M.ret (.dat d)) (mNil))).bind fz).bind fun d => M.ret (.dat d)) (((mL gRepr (mCons (((mCall fn_bar (mCons ((mName 5).bind fun d => M.ret (.dat d)) (mCons ((mName 7).bind fun d => M.ret (.dat d)) (mCons ((mName 8).bind fun d => M.ret (.dat d)) (mCons ((mName 11).bind fun d => M.ret (.dat d)) (mNil)))))).bind fz).bind fun d => M.ret (.dat d)) (mNil))).bind fz).bind fun d => M.ret (.dat d))).bind asBool) (sRet ((M.ret (.bool false)).bind fun d => M.ret (.sh d))) (sNext)))))))) (sIf ((m2 gNe (((mL gRepr (mCons (mSlot 5) (mNil))).bind fz).bind fun d => M.ret (.dat d)) (mSlot 6)).bind asBool) (sRet ((M.ret (.bool false)).bind fun d => M.ret (.sh d))) (sNext)))))))) (sSeq (sSet 5 (mCall fn_wide (mCons ((M.ret (.str "elm")).bind fun d => M.ret (.dat d)) (mNil)))) (sSeq (sFor (((m2 aAdd (((mSl ((m2 gIx (mSlot 5) ((M.ret (.int 2)).bind fun d => M.ret (.dat d))).bind fun d => M.ret (.dat d)) (M.ret none) ((M.ret (.int 2)).bind fun d => (asInt d).bind fun i => M.ret (some i))).bind fz).bind fun d => M.ret (.dat d)) (((mSl ((m2 gIx (mSlot 5) ((M.ret (.int 2)).bind fun d => M.ret (.dat d))).bind fun d => M.ret (.dat d)) (((M.ret (.int 3)).bind negD).bind fun d => (asInt d).bind fun i => M.ret (some i)) (M.ret none)).bind fz).bind fun d => M.ret (.dat d))).bind fz).bind seqItems) (tName 9) (sSeq (sSet 10 (mFix lstG (mCons (((mCall fn_row_of (mCons ((mName 5).bind fun d => M.ret (.dat d)) (mCons ((M.ret (.str "elm")).bind fun d => M.ret (.dat d)) (mCons ((m2 gIx (mSlot 9) ((M.ret (.int 0)).bind fun d => M.ret (.dat d))).bind fun d => M.ret (.dat d)) (mNil))))).bind fz).bind fun d => M.ret (.dat d)) (mCons (((mCall fn_is_mine (mCons ((mName 5).bind fun d => M.ret (.dat d)) (mCons ((M.ret (.str "elm")).bind fun d => M.ret (.dat d)) (mCons ((m2 gIx (mSlot 9) ((M.ret (.int 0)).bind fun d => M.ret (.dat d))).bind fun d => M.ret (.dat d)) (mNil))))).bind fz).bind fun d => M.ret (.dat d)) (mCons (((mCall fn_is_mine (mCons ((mName 5).bind fun d => M.ret (.dat d)) (mCons ((M.ret (.str "ash")).bind fun d => M.ret (.dat d)) (mCons ((m2 gIx (mSlot 9) ((M.ret (.int 0)).bind fun d => M.ret (.dat d))).bind fun d => M.ret (.dat d)) (mNil))))).bind fz).bind fun d => M.ret (.dat d)) (mNil)))))) (sSeq (sIf ((m2 gNe (((mL gRepr (mCons (mSlot 10) (mNil))).bind fz).bind fun d => M.ret (.dat d)) (((mL gRepr (mCons (((mFix lstG (mCons ((mName 9).bind fun d => M.ret (.dat d)) (mCons ((M.ret (.bool true)).bind fun d => M.ret (.dat d)) (mCons ((M.ret (.bool false)).bind fun d => M.ret (.dat d)) (mNil))))).bind fz).bind fun d => M.ret (.dat d)) (mNil))).bind fz).bind fun d => M.ret (.dat d))).bind asBool) (sRet ((M.ret (.bool false)).bind fun d => M.ret (.sh d))) (sNext)) (sFor ((mFix tupG (mCons ((M.ret (.int 9899)).bind fun d => M.ret (.dat d)) (mCons ((M.ret (.int 9950)).bind fun d => M.ret (.dat d)) (mCons ((m2 gIx (mSlot 9) ((M.ret (.int 5)).bind fun d => M.ret (.dat d))).bind fun d => M.ret (.dat d)) (mNil))))).bind seqItems) (tName 11) (sIf ((m2 gNe (((mL gRepr (mCons (((mCall fn_burn_bars (mApp (mCons ((mName 5).bind fun d => M.ret (.dat d)) (mCons ((M.ret (.str "elm")).bind fun d => M.ret (.dat d)) (mCons ((m2 gIx (mSlot 9) ((M.ret (.int 0)).bind fun d => M.ret (.dat d))).bind fun d => M.ret (.dat d)) (mNil)))) (mCons ((mName 11).bind fun d => M.ret (.dat d)) (mNil)))).bind fz).bind fun d => M.ret (.dat d)) (mNil))).bind fz).bind fun d => M.ret (.dat d)) (((mL gRepr (mCons (((mCall fn_bar (mCons ((mName 5).bind fun d => M.ret (.dat d)) (mCons ((M.ret (.str "elm")).bind fun d => M.ret (.dat d)) (mCons ((m2 gIx (mSlot 9) ((M.ret (.int 0)).bind fun d => M.ret (.dat d))).bind fun d => M.ret (.dat d)) (mCons ((mName 11).bind fun d => M.ret (.dat d)) (mNil)))))).bind fz).bind fun d => M.ret (.dat d)) (mNil))).bind fz).bind fun d => M.ret (.dat d))).bind asBool) (sRet ((M.ret (.bool false)).bind fun d => M.ret (.sh d))) (sNext)))))) (sRet ((M.ret (.bool true)).bind fun d => M.ret (.sh d))))))
def fn_law_2 : Fn := fnM 11 [false] m_law_2
end Lw
namespace Eg
open PySem L2 PySem.W PySem.SeqAt
theorem gGt_int (a b : Int) : gGt (.int a) (.int b) = some (.bool (decide (b < a))) := by
  simp [gGt, cmpOk, alike, isNon, small, PyData.depth, dataLt_int]
theorem gLt_int (a b : Int) : gLt (.int a) (.int b) = some (.bool (decide (a < b))) := by
  simp [gLt, cmpOk, alike, isNon, small, PyData.depth, dataLt_int]
theorem gGe_int (a b : Int) : gGe (.int a) (.int b) = some (.bool (decide (b ≤ a))) := by
  simp [gGe, cmpOk, alike, isNon, small, PyData.depth, dataLt_int]
  by_cases h : a < b
  · simp [h]
  · simp [h]
    omega
theorem gEq_int (a b : Int) : gEq (.int a) (.int b) = some (.bool (decide (a = b))) := by
  simp [gEq, small, PyData.depth, PyData.eqv]
  rfl
theorem gNe_int (a b : Int) : gNe (.int a) (.int b) = some (.bool (decide (a ≠ b))) := by
  simp [gNe, small, PyData.depth, PyData.eqv]
  rfl
theorem gMod_int {a b : Int} (h : 0 < b) : gMod (.int a) (.int b) = some (.int (a % b)) := by simp [gMod, h]
theorem gFloor_int {a b : Int} (h : 0 < b) (h2 : b < 1073741824) : gFloor (.int a) (.int b) = some (.int (a / b)) := by simp [gFloor, h, h2]
theorem gMul_int {a b : Int} (h : -(2 ^ 64) < a ∧ a < 2 ^ 64) : aMul (.int a) (.int b) = some (.sh (.int (a * b))) := by simp only [aMul]; rw [if_pos (.inl h)]
theorem gPow_int {a b : Int} (h : 0 ≤ b ∧ b ≤ 1000000 ∧ a.natAbs < 2 ^ 64) : gPow (.int a) (.int b) = some (.int (a ^ b.toNat)) := by simp only [gPow]; rw [if_pos h]
/-- the tap -/
def tapD (cells : List PyData) (spot rest calls : Int) : List (Key × PyData) := [(.inr "cells", .list cells), (.inr "spot", .int spot), (.inr "rest", .int rest), (.inr "calls", .int calls)]
section
variable (c : List PyData) (s r k : Int)
theorem tap_cells : dGet (tapD c s r k) (.inr "cells") = some (.list c) := rfl
theorem tap_spot : dGet (tapD c s r k) (.inr "spot") = some (.int s) := rfl
theorem tap_rest : dGet (tapD c s r k) (.inr "rest") = some (.int r) := rfl
theorem tap_calls : dGet (tapD c s r k) (.inr "calls") = some (.int k) := rfl
theorem put_spot (x : Int) : dPut (tapD c s r k) (.inr "spot") (.int x) = tapD c x r k := rfl
theorem put_rest (x : Int) : dPut (tapD c s r k) (.inr "rest") (.int x) = tapD c s x k := rfl
theorem put_calls (x : Int) : dPut (tapD c s r k) (.inr "calls") (.int x) = tapD c s r x := rfl
theorem tap_len : (tapD c s r k).length = 4 := rfl
end
end Eg
namespace Lw
open PySem L2 PySem.W PySem.SeqAt Eg
abbrev tapO (c : List PyData) (s r k : Int) : Option OD := some (.od (tapD c s r k))
theorem h4 : 4 < sizeLine := by decide
theorem take_rest {c : List PyData} {s r k many : Int} (h : 0 < r) (h1 : 0 < many) (h2 : many < 1073741824) : fn_take [tapO c s r k, some (.sh (.int many))] = .ok (.sh (.int (r % many))) [tapO c s (r / many) (k + 1), none] := by
  unfold fn_take m_take tapO
  simp? only [tap_calls, tap_rest, put_calls, put_rest, tap_len, aAdd, gGt_int, gMod_int h1, gFloor_int h1 h2, h4, h, decide_true]
theorem gLen_list (c : List PyData) : gLen [.list c] = some (.sh (.int c.length)) := rfl
theorem cell_at {c : List PyData} {s : Int} (hc : ∀ d ∈ c, ∃ i, d = PyData.int i) (h : 0 < (c.length : Int)) : ∃ x, gIx (.list c) (.int (s % c.length)) = some (.int x) := by
  have h1 := Int.emod_nonneg s (Int.ne_of_gt h)
  have h2 := Int.emod_lt_of_pos s h
  have e : gIx (.list c) (.int (s % c.length)) = c[(s % c.length).toNat]? := by
    show L2.atI c (s % c.length) = _
    unfold L2.atI ixN
    simp [h1, h2]
  have hl : (s % c.length).toNat < c.length := by omega
  obtain ⟨x, ex⟩ := hc c[(s % c.length).toNat] (List.getElem_mem hl)
  exact ⟨x, by rw [e, List.getElem?_eq_getElem hl, ex]⟩
/-- the least of a draw: between 0 and many -/
theorem take_ok {c : List PyData} {s r k many : Int} (hc : ∀ d ∈ c, ∃ i, d = PyData.int i) (hs : 0 ≤ s) (hk : 0 ≤ k) (hk2 : k < 1000000) (h1 : 0 < many) (h2 : many < 1073741824) :
    ∃ v s' r', 0 ≤ v ∧ v < many ∧ 0 ≤ s' ∧ fn_take [tapO c s r k, some (.sh (.int many))] = .ok (.sh (.int v)) [tapO c s' r' (k + 1), none] := by
  by_cases h : 0 < r
  · exact ⟨_, s, _, Int.emod_nonneg _ (Int.ne_of_gt h1), Int.emod_lt_of_pos _ h1, hs, take_rest h h1 h2⟩
  · have last : ∀ x : Int, ∃ v : Int, 0 ≤ v ∧ v < many ∧ (gPow (.int (x % 2147483629 + 6029 * (k + 1) + 17)) (.int 5) = some (.int ((x % 2147483629 + 6029 * (k + 1) + 17) ^ (5 : Int).toNat))) ∧
        (aMul (.int (4111 * (k + 1))) (.int (k + 1)) = some (.sh (.int (4111 * (k + 1) * (k + 1))))) ∧
        gPow (.int ((x % 2147483629 + 6029 * (k + 1) + 17) ^ (5 : Int).toNat % 2147483647 + 4111 * (k + 1) * (k + 1))) (.int 5) = some (.int (((x % 2147483629 + 6029 * (k + 1) + 17) ^ (5 : Int).toNat % 2147483647 + 4111 * (k + 1) * (k + 1)) ^ (5 : Int).toNat)) ∧
        v = ((x % 2147483629 + 6029 * (k + 1) + 17) ^ (5 : Int).toNat % 2147483647 + 4111 * (k + 1) * (k + 1)) ^ (5 : Int).toNat % 2147483587 / 32 % many := by
      intro x
      refine ⟨_, Int.emod_nonneg _ (Int.ne_of_gt h1), Int.emod_lt_of_pos _ h1, gPow_int ⟨by decide, by decide, ?_⟩, gMul_int ⟨by omega, by omega⟩, gPow_int ⟨by decide, by decide, ?_⟩, rfl⟩
      · omega
      · have b1 : 0 ≤ (k + 1) * (k + 1) := Int.mul_nonneg (by omega) (by omega)
        have b2 : (k + 1) * (k + 1) ≤ 1000000 * 1000000 := Int.mul_le_mul (by omega) (by omega) (by omega) (by omega)
        have b3 : 4111 * (k + 1) * (k + 1) = 4111 * ((k + 1) * (k + 1)) := Int.mul_assoc _ _ _
        have b4 := Int.emod_nonneg ((x % 2147483629 + 6029 * (k + 1) + 17) ^ (5 : Int).toNat) (show (2147483647 : Int) ≠ 0 by decide)
        have b5 := Int.emod_lt_of_pos ((x % 2147483629 + 6029 * (k + 1) + 17) ^ (5 : Int).toNat) (show (0 : Int) < 2147483647 by decide)
        rw [b3]
        generalize (x % 2147483629 + 6029 * (k + 1) + 17) ^ (5 : Int).toNat % 2147483647 = y at b4 b5
        generalize (k + 1) * (k + 1) = z at b1 b2
        omega
    have m1 : ∀ a : Int, gMod (.int a) (.int 2147483629) = some (.int (a % 2147483629)) := fun a => gMod_int (by decide)
    have m2' : ∀ a : Int, gMod (.int a) (.int 2147483647) = some (.int (a % 2147483647)) := fun a => gMod_int (by decide)
    have m3 : ∀ a : Int, gMod (.int a) (.int 2147483587) = some (.int (a % 2147483587)) := fun a => gMod_int (by decide)
    have m4 : ∀ a : Int, gFloor (.int a) (.int 32) = some (.int (a / 32)) := fun a => gFloor_int (by decide) (by decide)
    have m5 : ∀ a : Int, aMul (.int 6029) (.int a) = some (.sh (.int (6029 * a))) := fun a => gMul_int (by decide)
    have m6 : ∀ a : Int, aMul (.int 4111) (.int a) = some (.sh (.int (4111 * a))) := fun a => gMul_int (by decide)
    have p1 : gPow (.int 10) (.int 18) = some (.int (10 ^ (18 : Int).toNat)) := gPow_int (by decide)
    by_cases hc0 : 0 < (c.length : Int)
    · obtain ⟨x, ex⟩ := cell_at (s := s) hc hc0
      have mm := gMod_int (a := s) hc0
      obtain ⟨v, v1, v2, e1, e2, e3, ev⟩ := last x
      by_cases hb : s < (c.length : Int)
      · by_cases hx : (10 : Int) ^ (18 : Int).toNat ≤ x
        · refine ⟨x % many, s + 1, x / many, Int.emod_nonneg x (Int.ne_of_gt h1), Int.emod_lt_of_pos _ h1, by omega, ?_⟩
          unfold fn_take m_take tapO
          simp? only [tap_calls, tap_rest, tap_spot, tap_cells, put_calls, put_rest, put_spot, tap_len, aAdd, gLen_list, gGt_int, gLt_int, gGe_int, gMod_int h1, gFloor_int h1 h2, h4, h, decide_true, decide_false, hc0, ex, mm, hb, hx, p1]
        · refine ⟨v, s + 1, r, v1, v2, by omega, ?_⟩
          rw [ev]
          unfold fn_take m_take tapO
          simp? only [tap_calls, tap_rest, tap_spot, tap_cells, put_calls, put_rest, put_spot, tap_len, aAdd, gLen_list, gGt_int, gLt_int, gGe_int, gMod_int h1, h4, h, decide_true, decide_false, hc0, ex, mm, hb, hx, p1, m1, m2', m3, m4, m5, m6, e1, e2, e3]
      · refine ⟨v, s + 1, r, v1, v2, by omega, ?_⟩
        rw [ev]
        unfold fn_take m_take tapO
        simp? only [tap_calls, tap_rest, tap_spot, tap_cells, put_calls, put_rest, put_spot, tap_len, aAdd, gLen_list, gGt_int, gLt_int, gGe_int, gMod_int h1, h4, h, decide_true, decide_false, hc0, ex, mm, hb, p1, m1, m2', m3, m4, m5, m6, e1, e2, e3]
    · obtain ⟨v, v1, v2, e1, e2, e3, ev⟩ := last 11
      have hb : ¬ s < (c.length : Int) := by omega
      refine ⟨v, s + 1, r, v1, v2, by omega, ?_⟩
      rw [ev]
      unfold fn_take m_take tapO
      simp? only [tap_calls, tap_rest, tap_spot, tap_cells, put_calls, put_rest, put_spot, tap_len, aAdd, gLen_list, gGt_int, gLt_int, gGe_int, gMod_int h1, h4, h, decide_true, decide_false, hc0, hb, p1, m1, m2', m3, m4, m5, m6, e1, e2, e3]
end Lw
namespace Lw
open PySem L2 PySem.W PySem.SeqAt Eg
abbrev Hand := Str × Str
def hd (h : Hand) : PyData := .tuple [.str h.1, .str h.2]
def pd (p : Hand × Hand) : PyData := .tuple [hd p.1, hd p.2]
def dle (x y : PyData) : Bool := dataLe false id x y
theorem dle_eq (x y : PyData) : dle x y = !dataLt y x := rfl
theorem dle_total : TotalLe dle := show TotalLe (sortLe (PyProof.Rows.listOrd PyProof.Rows.itemOrd) false fun b : PyData => keyToks (id b)) from sortLe_total _ _ _
theorem toks_hd (h : Hand) : keyToks (hd h) = [.inl 1, .inr h.1.cps.toList, .inl 1, .inr h.2.cps.toList, .inl 0] := by
  simp [hd, keyToks, keyToksAll]
theorem hd_inj {h g : Hand} (e : keyToks (hd h) = keyToks (hd g)) : h = g := by
  rw [toks_hd, toks_hd] at e
  simp only [List.cons.injEq, Sum.inr.injEq, true_and, and_true] at e
  exact Prod.ext (str_of_cps e.1) (str_of_cps e.2)
theorem toks_pd (p : Hand × Hand) : keyToks (pd p) = .inl 1 :: (keyToks (hd p.1) ++ (.inl 1 :: (keyToks (hd p.2) ++ [.inl 0]))) := by
  simp [pd, keyToks, keyToksAll]
theorem pd_inj {p q : Hand × Hand} (e : keyToks (pd p) = keyToks (pd q)) : p = q := by
  rw [toks_pd, toks_pd] at e
  simp only [toks_hd, List.cons_append, List.nil_append, List.cons.injEq, Sum.inr.injEq, true_and, and_true] at e
  exact Prod.ext (Prod.ext (str_of_cps e.1) (str_of_cps e.2.1)) (Prod.ext (str_of_cps e.2.2.1) (str_of_cps e.2.2.2))
theorem toks_of_le {x y : PyData} (h1 : dle x y = true) (h2 : dle y x = true) : keyToks x = keyToks y := by
  simp only [dle_eq, Bool.not_eq_true'] at h1 h2
  exact (PyProof.Rows.listOrd PyProof.Rows.itemOrd).total _ _ h2 h1
theorem hd_alike (h g : Hand) : alike (hd h) (hd g) = true := by simp [hd, alike, alikeAll]
theorem pd_alike (p q : Hand × Hand) : alike (pd p) (pd q) = true := by simp [pd, alike, alikeAll, hd_alike]
theorem hd_small (h : Hand) : small (hd h) = true := by simp [hd, small, PyData.depth, PyData.depthAll]
theorem pd_small (p : Hand × Hand) : small (pd p) = true := by simp [pd, hd, small, PyData.depth, PyData.depthAll]
def lt (h g : Hand) : Bool := dataLt (hd h) (hd g)
theorem lt_self (h : Hand) : lt h h = false := (PyProof.Rows.listOrd PyProof.Rows.itemOrd).irrefl (keyToks (hd h))
theorem lt_tri {h g : Hand} (n : h ≠ g) (k : lt h g = false) : lt g h = true := by
  cases q : lt g h with
  | true => rfl
  | false => exact absurd (hd_inj ((PyProof.Rows.listOrd PyProof.Rows.itemOrd).total _ _ k q)) n
theorem lt_asymm {h g : Hand} (k : lt h g = true) : lt g h = false := by
  cases q : lt g h with
  | false => rfl
  | true =>
    have z := (PyProof.Rows.listOrd PyProof.Rows.itemOrd).trans (keyToks (hd h)) (keyToks (hd g)) (keyToks (hd h)) k q
    have w := (PyProof.Rows.listOrd PyProof.Rows.itemOrd).irrefl (keyToks (hd h))
    rw [w] at z; cases z
theorem lt_ne {h g : Hand} (k : lt h g = true) : h ≠ g := fun e => by subst e; rw [lt_self] at k; cases k
/-! the twos -/
def lo (h g : Hand) : Hand := if lt g h = true then g else h
def hi (h g : Hand) : Hand := if lt h g = true then g else h
def mm (h g : Hand) : Hand × Hand := (lo h g, hi h g)
theorem mm_lt {h g : Hand} (k : lt h g = true) : mm h g = (h, g) := by simp [mm, lo, hi, k, lt_asymm k]
theorem mm_comm (h g : Hand) : mm h g = mm g h := by
  by_cases e : h = g
  · rw [e]
  · cases k : lt h g with
    | true =>
      rw [mm_lt k]
      simp [mm, lo, hi, k, lt_asymm k]
    | false =>
      have k2 := lt_tri e k
      rw [mm_lt k2]
      simp [mm, lo, hi, k2, k]
def twos : List Hand → List (Hand × Hand)
  | [] => []
  | x :: xs => xs.map (mm x) ++ twos xs
def rise : List Hand → List (Hand × Hand)
  | [] => []
  | x :: xs => xs.map (fun y => (x, y)) ++ rise xs
open List in
theorem twos_perm {l m : List Hand} (p : l ~ m) : twos l ~ twos m := by
  induction p with
  | nil => exact .nil
  | cons x p ih => exact (p.map _).append ih
  | trans _ _ i1 i2 => exact i1.trans i2
  | swap x y l =>
    show mm y x :: l.map (mm y) ++ (l.map (mm x) ++ twos l) ~ mm x y :: l.map (mm x) ++ (l.map (mm y) ++ twos l)
    rw [mm_comm y x]
    refine List.Perm.cons _ ?_
    show l.map (mm y) ++ (l.map (mm x) ++ twos l) ~ l.map (mm x) ++ (l.map (mm y) ++ twos l)
    rw [← List.append_assoc, ← List.append_assoc]
    exact List.perm_append_comm.append_right _
theorem twos_rise : ∀ {l : List Hand}, l.Pairwise (fun a b => lt a b = true) → twos l = rise l
  | [], _ => rfl
  | x :: xs, h => by
    rw [List.pairwise_cons] at h
    show xs.map (mm x) ++ twos xs = xs.map (fun y => (x, y)) ++ rise xs
    rw [twos_rise h.2]
    congr 1
    exact List.map_congr_left fun y hy => mm_lt (h.1 y hy)
theorem rise_mem : ∀ {l : List Hand} {p : Hand × Hand}, l.Pairwise (fun a b => lt a b = true) → p ∈ rise l → lt p.1 p.2 = true ∧ p.1 ∈ l
  | x :: xs, p, h, hp => by
    rw [List.pairwise_cons] at h
    rcases List.mem_append.mp hp with z | z
    · obtain ⟨y, hy, rfl⟩ := List.mem_map.mp z
      exact ⟨h.1 y hy, List.mem_cons_self⟩
    · obtain ⟨a, b⟩ := rise_mem h.2 z
      exact ⟨a, List.mem_cons_of_mem _ b⟩
theorem twos_len : ∀ l : List Hand, 2 * (twos l).length + l.length = l.length * l.length
  | [] => rfl
  | x :: xs => by
    have ih := twos_len xs
    simp only [twos, List.length_append, List.length_map, List.length_cons, Nat.mul_add, Nat.add_mul]
    omega
theorem eqv_hd {h g : Hand} (e : PyData.eqv (hd h) (hd g) = true) : h = g := hd_inj ((toks_eqv _ _ (hd_alike h g)).1 e)
theorem eqv_self (h : Hand) : PyData.eqv (hd h) (hd h) = true := eqv_refl_alike _ (hd_alike h h)
theorem pd_le {p q : Hand × Hand} (h : lt p.1 q.1 = true ∨ (p.1 = q.1 ∧ lt p.2 q.2 = true)) : dle (pd p) (pd q) = true := by
  rw [dle_eq]
  unfold pd
  rw [dataLt_pair (hd_alike _ _) (hd_alike _ _)]
  rcases h with h | ⟨h1, h2⟩
  · cases k : PyData.eqv (hd q.1) (hd p.1) with
    | true => exact absurd (eqv_hd k).symm (lt_ne h)
    | false =>
      simp only [Bool.false_eq_true, if_false]
      have := lt_asymm h
      unfold lt at this
      rw [this]; rfl
  · rw [h1, eqv_self]
    simp only [if_true]
    split
    · rfl
    · have := lt_asymm h2
      unfold lt at this
      rw [this]; rfl
theorem rise_sorted : ∀ {l : List Hand}, l.Pairwise (fun a b => lt a b = true) → ((rise l).map pd).Pairwise fun a b => dle a b = true
  | [], _ => .nil
  | x :: xs, h => by
    have h' := List.pairwise_cons.mp h
    show ((xs.map (fun y => (x, y)) ++ rise xs).map pd).Pairwise _
    rw [List.map_append, List.pairwise_append]
    refine ⟨?_, rise_sorted h'.2, fun a ha b hb => ?_⟩
    · rw [List.map_map, List.pairwise_map]
      exact h'.2.imp (S := fun a b => dle (pd (x, a)) (pd (x, b)) = true) fun {a b} k => pd_le (.inr ⟨rfl, k⟩)
    · obtain ⟨p, hp, rfl⟩ := List.mem_map.mp ha
      obtain ⟨y, hy, rfl⟩ := List.mem_map.mp hp
      obtain ⟨q, hq, rfl⟩ := List.mem_map.mp hb
      exact pd_le (.inl (h'.1 q.1 (rise_mem h'.2 hq).2))
/-! sorting -/
def sortH (l : List Hand) : List Hand := l.mergeSort fun a b => dle (hd a) (hd b)
theorem sortH_map (l : List Hand) : sortD (l.map hd) = (sortH l).map hd := (List.map_mergeSort (s := dataLe false id) fun a _ b _ => rfl).symm
theorem sortH_perm (l : List Hand) : (sortH l).Perm l := List.mergeSort_perm _ _
theorem sortH_lt {l : List Hand} (h : l.Nodup) : (sortH l).Pairwise fun a b => lt a b = true := by
  have s : (sortH l).Pairwise fun a b => dle (hd a) (hd b) = true :=
    List.pairwise_mergeSort (le := fun a b => dle (hd a) (hd b)) (fun a b c h1 h2 => dle_total.trans _ _ _ h1 h2) (fun a b => by have := dle_total.total (hd a) (hd b); simpa using this) l
  have n : (sortH l).Nodup := (sortH_perm l).nodup_iff.mpr h
  refine (s.and n).imp fun {a b} ⟨h1, h2⟩ => ?_
  rw [dle_eq, Bool.not_eq_true'] at h1
  cases k : lt a b with
  | true => rfl
  | false => 
    have := lt_tri h2 k
    unfold lt at this
    rw [h1] at this; cases this
theorem sortH_eq {l m : List Hand} (p : l.Perm m) (hl : l.Nodup) : sortH l = sortH m := by
  have hm : m.Nodup := p.nodup_iff.mp hl
  refine List.Perm.eq_of_pairwise (le := fun a b => lt a b = true) (fun a b _ _ h1 h2 => ?_) (sortH_lt hl) (sortH_lt hm) (((sortH_perm l).trans p).trans (sortH_perm m).symm)
  rw [lt_asymm h1] at h2; cases h2
/-- all of them, rising -/
theorem twos_sorted {l : List Hand} (h : l.Nodup) : sortD ((twos l).map pd) = (rise (sortH l)).map pd := by
  have sl := sortH_lt h
  have pm : ((twos l).map pd).Perm ((rise (sortH l)).map pd) := by
    rw [← twos_rise sl]
    exact (twos_perm (sortH_perm l).symm).map _
  refine List.Perm.eq_of_pairwise (le := fun a b => dle a b = true) (fun a b ha hb h1 h2 => ?_) (sort_pairwise dle_total _) (rise_sorted sl) ((List.mergeSort_perm _ _).trans pm)
  obtain ⟨p, _, rfl⟩ := List.mem_map.mp ((List.mem_mergeSort).mp ha)
  obtain ⟨q, _, rfl⟩ := List.mem_map.mp hb
  rw [pd_inj (toks_of_le h1 h2)]
end Lw
namespace Lw
open PySem L2 PySem.W PySem.SeqAt Eg
/-- a tap of at most n calls -/
def TapAt (kvs : List (Key × PyData)) (n : Nat) : Prop := ∃ c s r k, kvs = tapD c s r k ∧ (∀ d ∈ c, ∃ i, d = PyData.int i) ∧ 0 ≤ s ∧ 0 ≤ k ∧ k ≤ n
theorem TapAt.mono {kvs : List (Key × PyData)} {n m : Nat} (h : TapAt kvs n) (l : n ≤ m) : TapAt kvs m := by
  obtain ⟨c, s, r, k, h1, h2, h3, h4, h5⟩ := h
  exact ⟨c, s, r, k, h1, h2, h3, h4, by omega⟩
theorem take_at {kvs : List (Key × PyData)} {n : Nat} {many : Int} (h : TapAt kvs n) (hn : n < 1000000) (h1 : 0 < many) (h2 : many < 1073741824) :
    ∃ v kvs', 0 ≤ v ∧ v < many ∧ TapAt kvs' (n + 1) ∧ fn_take [some (.od kvs), some (.sh (.int many))] = .ok (.sh (.int v)) [some (.od kvs'), none] := by
  obtain ⟨c, s, r, k, rfl, hc, hs, hk, hkn⟩ := h
  obtain ⟨v, s', r', v1, v2, hs', e⟩ := take_ok (r := r) hc hs hk (by omega) h1 h2
  exact ⟨v, _, v1, v2, ⟨c, s', r', k + 1, rfl, hc, hs', by omega, by omega⟩, e⟩
theorem tap_new (ns : List Int) : ∃ kvs, TapAt kvs 0 ∧ fn_tap [some (.sc ns)] = .ok (.od kvs) [none] := by
  refine ⟨tapD (cutD (ns.map .int) none (some 63)) 0 0 0, ⟨_, _, _, _, rfl, fun d hd => ?_, Int.le_refl _, Int.le_refl _, Int.le_refl _⟩, ?_⟩
  · obtain ⟨i, _, rfl⟩ := List.mem_map.mp (List.mem_of_mem_drop (List.mem_of_mem_take hd))
    exact ⟨i, rfl⟩
  · have g1 : ∀ d, gList [.list d] = some (.ol d) := fun _ => rfl
    unfold fn_tap m_tap
    simp? only [v_disp, v_ps0, v_ps1, v_pt63, v_scr, v_scrk, g1]
    rfl
/-! ### towns -/
def townsB : M Out := sExpr (mOl 2 (mPopAt 2 ((mCallO fn_take (mCons (mSlot 0) (mCons (((mL gLen (mCons (mSlot 2) (mNil))).bind fz).bind fun d => M.ret (.dat d)) (mNil)))).bind fz)))
def townsT : M Bool := (m2 gGt (((mL gLen (mCons (mSlot 2) (mNil))).bind fz).bind fun d => M.ret (.dat d)) (mSlot 3)).bind asBool
theorem towns_loop {many : Int} (hm : 0 ≤ many) {o1 : Option OD} : ∀ (n f : Nat) (pool : List PyData) (kvs : List (Key × PyData)) (k : Nat), pool.length ≤ n → n < f → pool.length < 100 → TapAt kvs k → k + n < 1000000 →
    ∃ pool' kvs', List.Sublist pool' pool ∧ TapAt kvs' (k + n) ∧ (many ≤ pool.length → many ≤ pool'.length) ∧ sWhile townsT townsB f [some (.od kvs), o1, some (.ol pool), some (.sh (.int many))] = .ok .nx [some (.od kvs'), o1, some (.ol pool'), some (.sh (.int many))] := by
  intro n
  induction n with
  | zero =>
    intro f pool kvs k hp hf _ ht _
    obtain ⟨f, rfl⟩ : ∃ g, f = g + 1 := ⟨f - 1, by omega⟩
    have e0 : ¬ many < (pool.length : Int) := by omega
    refine ⟨pool, kvs, List.Sublist.refl _, ht, fun h => h, ?_⟩
    rw [v_wh]
    unfold townsT
    simp? only [gLen_list, gGt_int, e0, decide_false]
  | succ n ih =>
    intro f pool kvs k hp hf h100 ht hk
    obtain ⟨f, rfl⟩ : ∃ g, f = g + 1 := ⟨f - 1, by omega⟩
    by_cases e0 : many < (pool.length : Int)
    · obtain ⟨v, kvs1, v0, v1, t1, e1⟩ := take_at ht (by omega) (show (0 : Int) < (pool.length : Int) by omega) (by omega)
      obtain ⟨y, ey, ep⟩ := v_popk (i := 2) (xs := pool) v0 v1 (by omega)
      have lt1 : v.toNat < pool.length := by omega
      obtain ⟨pool', kvs', s1, t2, lm, e2⟩ := ih f (pool.eraseIdx v.toNat) kvs1 (k + 1) (by rw [List.length_eraseIdx_of_lt lt1]; omega) (by omega) (by rw [List.length_eraseIdx_of_lt lt1]; omega) t1 (by omega)
      refine ⟨pool', kvs', s1.trans (List.eraseIdx_sublist _ _), t2.mono (by omega), fun _ => lm (by rw [List.length_eraseIdx_of_lt lt1]; omega), ?_⟩
      rw [v_wh]
      have tt : townsT [some (.od kvs), o1, some (.ol pool), some (.sh (.int many))] = .ok true [some (.od kvs), o1, some (.ol pool), some (.sh (.int many))] := by
        unfold townsT
        simp? only [gLen_list, gGt_int, e0, decide_true]
      have bb : townsB [some (.od kvs), o1, some (.ol pool), some (.sh (.int many))] = .ok .nx [some (.od kvs1), o1, some (.ol (pool.eraseIdx v.toNat)), some (.sh (.int many))] := by
        unfold townsB
        simp? only [gLen_list, v_pop, e1, ep]
      rw [tt]
      simp? only [bb, v_whn]
      exact e2
    · refine ⟨pool, kvs, List.Sublist.refl _, ht.mono (by omega), fun h => h, ?_⟩
      rw [v_wh]
      unfold townsT
      simp? only [gLen_list, gGt_int, e0, decide_false]
def five : List Str := ["ash", "b", "elm", "oak", "zzzzzzzz"]
theorem gMin_int (a b : Int) : gMin [.int a, .int b] = some (.sh (.int (if b < a then b else a))) := by
  simp [gMin, pairOk, alike, Eg.isNon, small, PyData.depth, isLst, dataLt_int]
  split <;> rfl
theorem towns_ok {kvs : List (Key × PyData)} {k : Nat} {least : Int} (h : TapAt kvs k) (hk : k < 90000) (hl : 0 ≤ least) : ∃ (ts : List Str) (kvs' : List (Key × PyData)), List.Sublist ts five ∧ (1 ≤ least → 1 ≤ ts.length) ∧ TapAt kvs' (k + 10) ∧
    fn_towns [some (.od kvs), some (.sh (.int least))] = .ok (.ol (ts.map .str)) [some (.od kvs'), none] := by
  obtain ⟨v, kvs1, v0, v1, t1, e1⟩ := take_at h (by omega) (show (0 : Int) < 3 by decide) (by decide)
  have hm : 0 ≤ (if least + v < 4 then least + v else 4) := by split <;> omega
  obtain ⟨pool', kvs', s1, t2, lm, e2⟩ := towns_loop hm (o1 := some (.sh (.int least))) 5 100 (five.map .str) kvs1 (k + 1) (by decide) (by decide) (by decide) t1 (by omega)
  obtain ⟨ts, hts, rfl⟩ := List.sublist_map_iff.mp s1
  refine ⟨ts, kvs', hts, fun h1 => ?_, t2.mono (by omega), ?_⟩
  · simp only [List.length_map] at lm
    have h5 : (five.length : Int) = 5 := rfl
    have l5 : (if least + v < 4 then least + v else 4) ≤ (five.length : Int) := by rw [h5]; split <;> omega
    have := lm l5
    split at this <;> omega
  have l5 : ∀ a b c d e : PyData, lstG [a, b, c, d, e] = some (.ol [a, b, c, d, e]) := fun _ _ _ _ _ => if_pos (show 5 ≤ sizeLine by decide)
  unfold fn_towns m_towns
  simp? only [l5, e1, aAdd, gMin_int]
  have e2' := e2
  unfold townsT townsB five at e2'
  simp only [List.map_cons, List.map_nil] at e2'
  rw [e2']
  simp? only []
/-! ### seats -/
def words : List Str := ["a", "ann", "z"]
def allOf (ts : List Str) : List Hand := ts.flatMap fun p => words.map fun w => (p, w)
theorem lg3 (a b c : PyData) : lstG [a, b, c] = some (.ol [a, b, c]) := if_pos (show 3 ≤ sizeLine by decide)
theorem tg2 (a b : PyData) : tupG [a, b] = some (.tuple [a, b]) := if_pos (show 2 ≤ sizeLine by decide)
def seatsB : M Out := (sSet 3 (m2 aAdd (mSlot 3) (((mComp (((mFix lstG (mCons ((M.ret (.str "a")).bind fun d => M.ret (.dat d)) (mCons ((M.ret (.str "ann")).bind fun d => M.ret (.dat d)) (mCons ((M.ret (.str "z")).bind fun d => M.ret (.dat d)) (mNil))))).bind fz).bind seqItems) (tName 7) (M.ret true) (mFix tupG (mCons ((mName 5).bind fun d => M.ret (.dat d)) (mCons ((mName 7).bind fun d => M.ret (.dat d)) (mNil)))) [7]).bind fz).bind fun d => M.ret (.dat d))))
theorem seats_one {o0 o1 o2 o4 o6 o7 : Option OD} {acc : List Hand} {p : Str} (hl : acc.length ≤ 1000) : seatsB [o0, o1, o2, some (.ol (acc.map hd)), o4, some (.sh (.str p)), o6, o7] =
    .ok .nx [o0, o1, o2, some (.ol ((acc ++ words.map fun w => (p, w)).map hd)), o4, some (.sh (.str p)), o6, o7] := by
  have cs : ∀ (a b c : PyData), lcGo (tName 7) (M.ret true) (mFix tupG (mCons ((mName 5).bind fun d => M.ret (.dat d)) (mCons ((mName 7).bind fun d => M.ret (.dat d)) (mNil)))) [7] [a, b, c] [] [o0, o1, o2, some (.ol (acc.map hd)), o4, some (.sh (.str p)), o6, o7] =
      .ok [.tuple [.str p, a], .tuple [.str p, b], .tuple [.str p, c]] [o0, o1, o2, some (.ol (acc.map hd)), o4, some (.sh (.str p)), o6, some (.sh c)] := by
    intro a b c
    have z0 : 0 < sizeLine := by decide
    have z1 : 1 < sizeLine := by decide
    have z2 : 2 < sizeLine := by decide
    simp only [lcGo, v_wp0, v_wp1, List.set_cons_zero, List.set_cons_succ, v_tn, v_ret]
    simp? only [tg2, List.length_nil, List.length_cons, z0, z1, z2]
  have ad : ∀ b : List PyData, b.length = 3 → aAdd (.list (acc.map hd)) (.list b) = some (.ol (acc.map hd ++ b)) := fun b hb => if_pos (by rw [List.length_map, hb]; have := sizeLine_eq; omega)
  have rr : ∀ x y : Option OD, restR [o0, o1, o2, some (.ol (acc.map hd)), o4, some (.sh (.str p)), o6, x] [o0, o1, o2, some (.ol (acc.map hd)), o4, some (.sh (.str p)), o6, y] [7] = [o0, o1, o2, some (.ol (acc.map hd)), o4, some (.sh (.str p)), o6, x] := fun x y => rfl
  unfold seatsB
  simp? only [v_comp, lg3, cs, v_cpk, List.length_cons, List.length_nil, rr, ad]
  rw [List.map_append]
  rfl
theorem seats_first {o0 o1 o2 o4 o6 o7 : Option OD} : ∀ (ts : List Str) (acc : List Hand) (o5 : Option OD), acc.length + 3 * ts.length ≤ 1000 → ∃ o5', sLoop (tName 5) seatsB (ts.map .str) [o0, o1, o2, some (.ol (acc.map hd)), o4, o5, o6, o7] =
    .ok .nx [o0, o1, o2, some (.ol ((acc ++ allOf ts).map hd)), o4, o5', o6, o7]
  | [], acc, o5, _ => ⟨o5, by rw [List.map_nil, v_lp0]; simp [allOf]⟩
  | p :: ts, acc, o5, h => by
    rw [List.length_cons] at h
    obtain ⟨o5', e⟩ := seats_first (o0 := o0) (o1 := o1) (o2 := o2) (o4 := o4) (o6 := o6) (o7 := o7) ts (acc ++ words.map fun w => (p, w)) (some (.sh (.str p))) (by rw [List.length_append]; simp [words]; omega)
    refine ⟨o5', ?_⟩
    rw [List.map_cons, v_lp1]
    simp? only []
    rw [seats_one (by omega), v_lpn, e]
    simp [allOf, List.append_assoc]
def seatsC : M Out := (sExpr (mOl 4 (mAppend 4 (mOl 3 (mPopAt 3 ((mCallO fn_take (mCons (mSlot 0) (mCons (((mL gLen (mCons (mSlot 3) (mNil))).bind fz).bind fun d => M.ret (.dat d)) (mNil)))).bind fz))))))
open List in
theorem erase_perm {α : Type} : ∀ (l : List α) (i : Nat) (h : i < l.length), [l[i]] ++ l.eraseIdx i ~ l
  | x :: l, 0, _ => .refl _
  | x :: l, i + 1, h => by
    have ih := erase_perm l i (by simpa using h)
    show (x :: l)[i + 1] :: x :: l.eraseIdx i ~ x :: l
    exact (List.Perm.swap _ _ _).trans (ih.cons x)
theorem erase_map {α β : Type} (f : α → β) : ∀ (l : List α) (i : Nat), (l.map f).eraseIdx i = (l.eraseIdx i).map f
  | [], _ => by simp
  | x :: l, 0 => rfl
  | x :: l, i + 1 => by
    show f x :: (l.map f).eraseIdx i = f x :: (l.eraseIdx i).map f
    rw [erase_map f l i]
open List in
theorem seats_second {o1 o2 o5 o7 : Option OD} : ∀ (is : List Int) (pool found : List Hand) (kvs : List (Key × PyData)) (k : Nat) (o6 : Option OD), is.length ≤ pool.length → pool.length + found.length ≤ 1000 → TapAt kvs k → k + is.length < 100000 →
    ∃ pool' found' kvs' o6', found' ++ pool' ~ found ++ pool ∧ found'.length = found.length + is.length ∧ TapAt kvs' (k + is.length) ∧
      sLoop (tName 6) seatsC (is.map .int) [some (.od kvs), o1, o2, some (.ol (pool.map hd)), some (.ol (found.map hd)), o5, o6, o7] = .ok .nx [some (.od kvs'), o1, o2, some (.ol (pool'.map hd)), some (.ol (found'.map hd)), o5, o6', o7]
  | [], pool, found, kvs, k, o6, _, _, ht, _ => ⟨pool, found, kvs, o6, .refl _, rfl, ht, rfl⟩
  | i :: is, pool, found, kvs, k, o6, hl, hl2, ht, hk => by
    rw [List.length_cons] at hl hk
    obtain ⟨v, kvs1, v0, v1, t1, e1⟩ := take_at ht (by omega) (show (0 : Int) < (pool.length : Int) by omega) (by omega)
    have v1' : v < ((pool.map hd).length : Int) := by rw [List.length_map]; exact v1
    obtain ⟨y, ey, ep⟩ := v_popk (i := 3) v0 v1' (by rw [List.length_map]; omega)
    have lt1 : v.toNat < pool.length := by omega
    have ey2 : y = hd pool[v.toNat] := by
      rw [List.getElem?_map, List.getElem?_eq_getElem lt1] at ey
      exact (Option.some.inj ey).symm
    have len1 := List.length_eraseIdx_of_lt lt1
    obtain ⟨pool', found', kvs', o6', p, q, t2, e2⟩ := seats_second is (pool.eraseIdx v.toNat) (found ++ [pool[v.toNat]]) kvs1 (k + 1) (some (.sh (.int i))) (by omega) (by rw [len1, List.length_append, List.length_singleton]; omega) t1 (by omega)
    refine ⟨pool', found', kvs', o6', p.trans ?_, by rw [q]; simp; omega, t2.mono (by rw [List.length_cons]; omega), ?_⟩
    · rw [List.append_assoc]
      refine List.Perm.append_left _ ?_
      exact erase_perm pool _ lt1
    · have app : (found.map hd).length < sizeLine := by rw [List.length_map]; have := sizeLine_eq; omega
      have glen : gLen [.list (pool.map hd)] = some (.sh (.int pool.length)) := by rw [gLen_list, List.length_map]
      have bb : seatsC [some (.od kvs), o1, o2, some (.ol (pool.map hd)), some (.ol (found.map hd)), o5, some (.sh (.int i)), o7] = .ok .nx [some (.od kvs1), o1, o2, some (.ol ((pool.map hd).eraseIdx v.toNat)), some (.ol (found.map hd ++ [y])), o5, some (.sh (.int i)), o7] := by
        unfold seatsC
        simp? only [glen, v_pop, e1, ep, app]
      rw [List.map_cons, v_lp1]
      simp? only []
      rw [bb, v_lpn]
      have m1 : (pool.map hd).eraseIdx v.toNat = (pool.eraseIdx v.toNat).map hd := erase_map hd pool _
      have m2 : found.map hd ++ [y] = (found ++ [pool[v.toNat]]).map hd := by rw [ey2, List.map_append]; rfl
      rw [m1, m2, e2]
theorem gLen_any (l : List PyData) : gLen [.list l] = some (.sh (.int l.length)) := rfl
open List in
/-- so many unlike hands of these towns -/
theorem seats_ok {kvs : List (Key × PyData)} {k : Nat} {ts : List Str} {many : Int} (h : TapAt kvs k) (hk : k < 90000) (ht : ts.length ≤ 5) (hm : 0 ≤ many) : ∃ (found rest : List Hand) (kvs' : List (Key × PyData)), found ++ rest ~ allOf ts ∧ found.length ≤ many.toNat ∧ TapAt kvs' (k + 100) ∧
    fn_seats [some (.od kvs), some (.sh (.list (ts.map .str))), some (.sh (.int many))] = .ok (.ol (found.map hd)) [some (.od kvs'), none, none] := by
  have al : ∀ l : List Str, (allOf l).length = 3 * l.length := fun l => by
    induction l with
    | nil => rfl
    | cons x l ih =>
      have : allOf (x :: l) = (words.map fun w => (x, w)) ++ allOf l := rfl
      rw [this, List.length_append, ih, List.length_map, List.length_cons]
      simp [words]; omega
  have al5 := al ts
  let m : Int := if (allOf ts).length < many then ((allOf ts).length : Int) else many
  have m0 : 0 ≤ m := by show 0 ≤ ite _ _ _; split <;> omega
  have m1 : m.toNat ≤ (allOf ts).length := by show (ite _ _ _ : Int).toNat ≤ _; split <;> omega
  have m2 : m.toNat ≤ many.toNat := by show (ite _ _ _ : Int).toNat ≤ _; split <;> omega
  obtain ⟨o5', e1⟩ := seats_first (o0 := some (.od kvs)) (o1 := some (.sh (.list (ts.map .str)))) (o2 := some (.sh (.int many))) (o4 := some (.ol [])) (o6 := none) (o7 := none) ts [] none (by rw [List.length_nil]; omega)
  obtain ⟨pool', found', kvs', o6', p, q, t2, e2⟩ := seats_second (o1 := some (.sh (.list (ts.map .str)))) (o2 := some (.sh (.int many))) (o5 := o5') (o7 := none) ((List.range m.toNat).map fun (j : Nat) => (0 + (j : Int))) (allOf ts) [] kvs k none (by rw [List.length_map, List.length_range]; exact m1) (by rw [List.length_nil]; omega) h (by rw [List.length_map, List.length_range]; omega)
  rw [List.length_map, List.length_range] at q t2
  refine ⟨found', pool', kvs', p, by rw [q, List.length_nil]; omega, t2.mono (by omega), ?_⟩
  have rg : rng1 [.int m] = some (rngD 0 m.toNat) := if_pos ⟨by omega, by omega⟩
  have rd : rngD 0 m.toNat = ((List.range m.toNat).map fun (j : Nat) => (0 + (j : Int))).map PyData.int := by unfold rngD; rw [List.map_map]; rfl
  have gm : gMin [.int many, .int ((allOf ts).map hd).length] = some (.sh (.int m)) := by rw [gMin_int, List.length_map]
  have l0 : lstG [] = some (.ol []) := if_pos (Nat.zero_le _)
  unfold fn_seats m_seats
  simp? only [l0]
  have e1' := e1
  rw [List.nil_append] at e1'
  unfold seatsB at e1'
  simp only [List.map_nil] at e1'
  rw [e1']
  simp? only [gLen_any, gm, rg]
  rw [rd]
  have e2' := e2
  unfold seatsC at e2'
  simp only [List.map_nil] at e2'
  rw [e2']
  simp? only []
end Lw
namespace Lw
open PySem L2 PySem.W PySem.SeqAt Eg
theorem sortOk_hd (l : List Hand) (h : l.length ≤ 1000) : sortOk (l.map hd) = true := by
  have z := sizeLine_eq
  simp only [sortOk, alikeB, Bool.and_eq_true, Bool.or_eq_true, List.all_eq_true, decide_eq_true_eq, List.mem_map, forall_exists_index, and_imp, forall_apply_eq_imp_iff₂, List.length_map]
  exact ⟨⟨⟨fun a _ b _ => hd_alike a b, .inl fun a _ => rfl⟩, fun a _ => hd_small a⟩, by omega⟩
theorem sortOk_pd (l : List (Hand × Hand)) (h : l.length ≤ 1000) : sortOk (l.map pd) = true := by
  have z := sizeLine_eq
  simp only [sortOk, alikeB, Bool.and_eq_true, Bool.or_eq_true, List.all_eq_true, decide_eq_true_eq, List.mem_map, forall_exists_index, and_imp, forall_apply_eq_imp_iff₂, List.length_map]
  exact ⟨⟨⟨fun a _ b _ => pd_alike a b, .inl fun a _ => rfl⟩, fun a _ => pd_small a⟩, by omega⟩
theorem pairOk_hd (h g : Hand) : pairOk (hd h) (hd g) = true := by
  unfold pairOk
  rw [hd_alike, hd_alike, hd_alike, hd_alike, hd_small, hd_small]
  rfl
theorem gMin_hd (h g : Hand) : gMin [hd h, hd g] = some (.sh (hd (lo h g))) := by
  have e : (if dataLt (hd g) (hd h) = true then hd g else hd h) = hd (lo h g) := by
    show (if lt g h = true then hd g else hd h) = hd (if lt g h = true then g else h)
    split <;> rfl
  show (if pairOk (hd h) (hd g) = true ∧ isLst (hd h) = false ∧ isLst (hd g) = false then some (OD.sh (if dataLt (hd g) (hd h) = true then hd g else hd h)) else none) = _
  rw [if_pos ⟨pairOk_hd h g, rfl, rfl⟩, e]
theorem gMax_hd (h g : Hand) : gMax [hd h, hd g] = some (.sh (hd (hi h g))) := by
  have e : (if dataLt (hd h) (hd g) = true then hd g else hd h) = hd (hi h g) := by
    show (if lt h g = true then hd g else hd h) = hd (if lt h g = true then g else h)
    split <;> rfl
  show (if pairOk (hd h) (hd g) = true ∧ isLst (hd h) = false ∧ isLst (hd g) = false then some (OD.sh (if dataLt (hd h) (hd g) = true then hd g else hd h)) else none) = _
  rw [if_pos ⟨pairOk_hd h g, rfl, rfl⟩, e]
theorem gIx_hd {l : List Hand} {j : Nat} (h : j < l.length) : gIx (.list (l.map hd)) (.int (j : Int)) = some (hd l[j]) := by
  show L2.atI (l.map hd) (j : Int) = _
  unfold L2.atI ixN
  have h0 : (0 : Int) ≤ (j : Int) := by omega
  have h1 : (j : Int) < (l.length : Int) := by omega
  simp [h0, h1, List.getElem?_eq_getElem h]
theorem cut_from (ds : List PyData) (j : Nat) : cutD ds (some ((j : Int) + 1)) none = ds.drop (j + 1) := by
  have e : HT.sIx ds.length 0 (some ((j : Int) + 1)) = min (j + 1) ds.length := by
    have := HT.sIx_nat ds.length 0 (j + 1)
    simpa using this
  unfold cutD
  rw [e, HT.sIx_none]
  by_cases h : j + 1 ≤ ds.length
  · rw [Nat.min_eq_left h, List.take_of_length_le]
    rw [List.length_drop]
    omega
  · have d1 : ds.drop (j + 1) = [] := List.drop_eq_nil_of_le (by omega)
    have d2 : ds.drop ds.length = [] := List.drop_eq_nil_of_le (Nat.le_refl _)
    rw [Nat.min_eq_right (by omega), d1, d2, List.take_nil]
/-! ### twos -/
def twosE : M PyData := (mFix tupG (mCons (((mL gMin (mCons ((m2 gIx (mSlot 0) (mSlot 2)).bind fun d => M.ret (.dat d)) (mCons (mSlot 3) (mNil)))).bind fz).bind fun d => M.ret (.dat d)) (mCons (((mL gMax (mCons ((m2 gIx (mSlot 0) (mSlot 2)).bind fun d => M.ret (.dat d)) (mCons (mSlot 3) (mNil)))).bind fz).bind fun d => M.ret (.dat d)) (mNil))))
def twosB : M Out := (sSet 1 (m2 aAdd (mSlot 1) (((mComp (((mSl (mSlot 0) (((m2 aAdd (mSlot 2) ((M.ret (.int 1)).bind fun d => M.ret (.dat d))).bind fz).bind fun d => (asInt d).bind fun i => M.ret (some i)) (M.ret none)).bind fz).bind seqItems) (tName 3) (M.ret true) twosE [3]).bind fz).bind fun d => M.ret (.dat d))))
theorem twos_one {l : List Hand} {acc : List (Hand × Hand)} {j : Nat} {o3 : Option OD} (hj : j < l.length) (hl : l.length ≤ 100) (ha : acc.length ≤ 100000) :
    twosB [some (.sh (.list (l.map hd))), some (.ol (acc.map pd)), some (.sh (.int (j : Int))), o3] = .ok .nx [some (.sh (.list (l.map hd))), some (.ol ((acc ++ (l.drop (j + 1)).map (mm l[j])).map pd)), some (.sh (.int (j : Int))), o3] := by
  have gx := gIx_hd hj
  have z := sizeLine_eq
  obtain ⟨ρ', ⟨o3', hρ⟩, e⟩ := lc_map (t := tName 3) (me := twosE) (vs := [3]) (Inv := fun ρ => ∃ o, ρ = [some (.sh (.list (l.map hd))), some (.ol (acc.map pd)), some (.sh (.int (j : Int))), o])
    (fun d => .tuple [if dataLt d (hd l[j]) = true then d else hd l[j], if dataLt (hd l[j]) d = true then d else hd l[j]]) ((l.drop (j + 1)).map hd) [] [some (.sh (.list (l.map hd))), some (.ol (acc.map pd)), some (.sh (.int (j : Int))), o3] ⟨o3, rfl⟩
    (by rw [List.length_nil, List.length_map, List.length_drop]; omega) (fun x hx ρ ⟨o, hρ⟩ => by
      obtain ⟨y, hy, rfl⟩ := List.mem_map.mp hx
      subst hρ
      refine ⟨[some (.sh (.list (l.map hd))), some (.ol (acc.map pd)), some (.sh (.int (j : Int))), some (.sh (hd y))], [some (.sh (.list (l.map hd))), some (.ol (acc.map pd)), some (.sh (.int (j : Int))), some (.sh (hd y))], rfl, ?_, ⟨_, rfl⟩⟩
      have g1 := gMin_hd l[j] y
      have g2 := gMax_hd l[j] y
      have e1 : hd (lo l[j] y) = if dataLt (hd y) (hd l[j]) = true then hd y else hd l[j] := by
        show hd (if lt y l[j] = true then y else l[j]) = if lt y l[j] = true then hd y else hd l[j]
        split <;> rfl
      have e2 : hd (hi l[j] y) = if dataLt (hd l[j]) (hd y) = true then hd y else hd l[j] := by
        show hd (if lt l[j] y = true then y else l[j]) = if lt l[j] y = true then hd y else hd l[j]
        split <;> rfl
      unfold twosE
      simp? only [gx, g1, g2, tg2]
      rw [e1, e2])
  subst hρ
  have em : ((l.drop (j + 1)).map hd).map (fun d => PyData.tuple [if dataLt d (hd l[j]) = true then d else hd l[j], if dataLt (hd l[j]) d = true then d else hd l[j]]) = ((l.drop (j + 1)).map (mm l[j])).map pd := by
    rw [List.map_map, List.map_map]
    refine List.map_congr_left fun y _ => ?_
    show PyData.tuple [if lt y l[j] = true then hd y else hd l[j], if lt l[j] y = true then hd y else hd l[j]] = PyData.tuple [hd (if lt y l[j] = true then y else l[j]), hd (if lt l[j] y = true then y else l[j])]
    congr 2
    · split <;> rfl
    · congr 1
      split <;> rfl
  rw [em, List.nil_append] at e
  have gs : gSl (.list (l.map hd)) (some ((j : Int) + 1)) none = some (.ol ((l.drop (j + 1)).map hd)) := by
    show some (OD.ol (cutD _ _ _)) = _
    rw [cut_from, List.map_drop]
  have ad : aAdd (.list (acc.map pd)) (.list (((l.drop (j + 1)).map (mm l[j])).map pd)) = some (.ol (acc.map pd ++ ((l.drop (j + 1)).map (mm l[j])).map pd)) := if_pos (by
    rw [List.length_map, List.length_map, List.length_map, List.length_drop]; omega)
  have a1 : aAdd (.int (j : Int)) (.int 1) = some (.sh (.int ((j : Int) + 1))) := rfl
  have rr : ∀ x y : Option OD, restR [some (.sh (.list (l.map hd))), some (.ol (acc.map pd)), some (.sh (.int (j : Int))), x] [some (.sh (.list (l.map hd))), some (.ol (acc.map pd)), some (.sh (.int (j : Int))), y] [3] = [some (.sh (.list (l.map hd))), some (.ol (acc.map pd)), some (.sh (.int (j : Int))), x] := fun x y => rfl
  unfold twosB
  simp? only [v_comp, v_sl, a1, gs, e, v_cpk, List.length_cons, List.length_nil, rr, ad]
  rw [List.map_append]
theorem twos_loop {l : List Hand} (hl : l.length ≤ 100) : ∀ (n j : Nat) (acc : List (Hand × Hand)) (o2 o3 : Option OD), j + n = l.length → acc.length + n * 100 ≤ 100000 → ∃ o2', sLoop (tName 2) twosB ((List.range' j n).map fun (i : Nat) => .int (i : Int)) [some (.sh (.list (l.map hd))), some (.ol (acc.map pd)), o2, o3] =
    .ok .nx [some (.sh (.list (l.map hd))), some (.ol ((acc ++ twos (l.drop j)).map pd)), o2', o3]
  | 0, j, acc, o2, o3, h, _ => ⟨o2, by
    rw [List.drop_eq_nil_of_le (by omega)]
    show Res.ok _ _ = _
    rw [show twos [] = [] from rfl, List.append_nil]⟩
  | n + 1, j, acc, o2, o3, h, ha => by
    have hj : j < l.length := by omega
    obtain ⟨o2', e⟩ := twos_loop hl n (j + 1) (acc ++ (l.drop (j + 1)).map (mm l[j])) (some (.sh (.int (j : Int)))) o3 (by omega) (by rw [List.length_append, List.length_map, List.length_drop]; omega)
    refine ⟨o2', ?_⟩
    rw [List.range'_succ, List.map_cons, v_lp1]
    simp? only []
    rw [twos_one hj hl (by omega), v_lpn, e, List.drop_eq_getElem_cons hj]
    show Res.ok _ _ = Res.ok Out.nx [_, some (OD.ol ((acc ++ ((l.drop (j + 1)).map (mm l[j]) ++ twos (l.drop (j + 1)))).map pd)), _, _]
    rw [List.append_assoc]
theorem rng1_nat (n : Nat) (h : n < 1000) : rng1 [.int (n : Int)] = some ((List.range' 0 n).map fun (i : Nat) => .int (i : Int)) := by
  have e : rng1 [.int (n : Int)] = some (rngD 0 (n : Int).toNat) := by
    simp only [rng1]
    rw [if_pos]
    constructor <;> omega
  have e2 : rngD 0 (n : Int).toNat = (List.range' 0 n).map fun (i : Nat) => PyData.int (i : Int) := by
    unfold rngD
    rw [Int.toNat_natCast, List.range_eq_range']
    exact List.map_congr_left fun i _ => congrArg PyData.int (Int.zero_add _)
  rw [e, e2]
end Lw
namespace Lw
open PySem L2 PySem.W PySem.SeqAt Eg
theorem gSorted_pd {l : List Hand} (hn : l.Nodup) (h : (twos l).length ≤ 1000) : gSorted [.list ((twos l).map pd)] = some (.ol ((rise (sortH l)).map pd)) := by
  have z := sortOk_pd _ h
  rw [← twos_sorted hn]
  simp only [gSorted]
  rw [if_pos z]
theorem twos_ok {l : List Hand} (hl : l.length ≤ 20) (hn : l.Nodup) : fn_twos [some (.sh (.list (l.map hd)))] = .ok (.ol ((rise (sortH l)).map pd)) [none] := by
  obtain ⟨o2', e⟩ := twos_loop (l := l) (by omega) l.length 0 [] none none (by omega) (by rw [List.length_nil]; omega)
  have tl := twos_len l
  have tl2 : l.length * l.length ≤ 20 * 20 := Nat.mul_le_mul hl hl
  have t3 : (twos l).length ≤ 1000 := by omega
  have gl : gLen [.list (l.map hd)] = some (.sh (.int l.length)) := by rw [gLen_any, List.length_map]
  have rg := rng1_nat l.length (by omega)
  have gs := gSorted_pd hn t3
  have l0 : lstG [] = some (.ol []) := if_pos (Nat.zero_le _)
  rw [List.drop_zero, List.nil_append] at e
  unfold fn_twos m_twos
  simp? only [l0, gl, rg]
  have e' := e
  unfold twosB twosE at e'
  rw [List.map_nil] at e'
  rw [e']
  simp? only [gs]
end Lw
namespace Lw
open PySem L2 PySem.W PySem.SeqAt Eg
structure Row where
  p : Hand × Hand
  a : Int
  b : Int
  place : Str
  giver : Str
  u : Int
  free : Int
  here : Bool
def rd (r : Row) : PyData := .tuple [pd r.p, .tuple [.int r.a, .int r.b], .str r.place, .str r.giver, .int r.u, .int r.free, .bool r.here]
structure Lot where
  turn : Int
  floor : Int
  rows : List Row
def lotD (l : Lot) : PyData := .tuple [.int l.turn, .int l.floor, .tuple (l.rows.map rd)]
/-- the row among the rows, else the one by the home -/
def ownRow (l : Lot) (town : Str) (p : Hand × Hand) : Row := match l.rows.find? fun r => decide (r.p = p) with
  | some r => r
  | none => if town = p.2.1 then ⟨p, l.turn, 0, p.2.1, p.2.1, 0, l.floor, true⟩ else ⟨p, 0, 0, p.2.1, p.2.1, 0, 0, false⟩
def mine (r : Row) (town : Str) : Bool := decide (r.place = town) && r.here
def barD (r : Row) (town : Str) (day : Int) : PyData := if mine r town = true then (if day < r.free then .int r.free else .none) else .str r.place
theorem eqv_pd (p q : Hand × Hand) : PyData.eqv (pd p) (pd q) = decide (p = q) := by
  by_cases h : p = q
  · subst h
    simp only [decide_true]
    exact eqv_refl_alike _ (pd_alike p p)
  · rw [decide_eq_false h]
    cases k : PyData.eqv (pd p) (pd q) with
    | false => rfl
    | true => exact absurd (pd_inj ((toks_eqv _ _ (pd_alike p q)).1 k)) h
theorem gEq_pd (p q : Hand × Hand) : gEq (pd p) (pd q) = some (.bool (decide (p = q))) := by
  unfold gEq
  rw [if_pos (pd_small p), eqv_pd]
theorem str_alike (x y : Str) : alike (.str x) (.str y) = true := by simp [alike]
theorem eqv_str (x y : Str) : PyData.eqv (.str x) (.str y) = decide (x = y) := by
  by_cases h : x = y
  · subst h
    simp only [decide_true]
    exact eqv_refl_alike _ (str_alike x x)
  · rw [decide_eq_false h]
    cases k : PyData.eqv (.str x) (.str y) with
    | false => rfl
    | true =>
      have e := (toks_eqv _ _ (str_alike x y)).1 k
      simp only [keyToks, List.cons.injEq, Sum.inr.injEq, and_true] at e
      exact absurd (str_of_cps e) h
theorem small_str (x : Str) : small (.str x) = true := by simp [small, PyData.depth]
theorem gEq_str2 (x y : Str) : gEq (.str x) (.str y) = some (.bool (decide (x = y))) := by
  unfold gEq
  rw [if_pos (small_str x), eqv_str]
theorem gNe_str2 (x y : Str) : gNe (.str x) (.str y) = some (.bool (!decide (x = y))) := by
  unfold gNe
  rw [if_pos (small_str x), eqv_str]
theorem home_ok (p : Hand × Hand) : fn_home_of [some (.sh (pd p))] = .ok (.sh (.str p.2.1)) [none] := by
  have et : tTup [tName 1, tName 2] (pd p) [some (.sh (pd p)), none, none] = some [some (.sh (pd p)), some (.sh (hd p.1)), some (.sh (hd p.2))] := rfl
  have gx : gIx (hd p.2) (.int 0) = some (.str p.2.1) := rfl
  unfold fn_home_of m_home_of
  simp? only [et, Option.getD_some, gx]
/-! ### row_of -/
def rowB : M Out := (sIf ((m2 gEq ((m2 gIx (mSlot 6) ((M.ret (.int 0)).bind fun d => M.ret (.dat d))).bind fun d => M.ret (.dat d)) (mSlot 2)).bind asBool) (sRet (mTake 6)) (sNext))
theorem row_loop {o0 o1 o3 o4 o5 o7 : Option OD} {p : Hand × Hand} : ∀ (rows : List Row) (o6 : Option OD),
    (∃ r, (rows.find? fun r => decide (r.p = p)) = some r ∧ sLoop (tName 6) rowB (rows.map rd) [o0, o1, some (.sh (pd p)), o3, o4, o5, o6, o7] = .ok (.rt (.sh (rd r))) [o0, o1, some (.sh (pd p)), o3, o4, o5, none, o7]) ∨
    ((rows.find? fun r => decide (r.p = p)) = none ∧ ∃ o6', sLoop (tName 6) rowB (rows.map rd) [o0, o1, some (.sh (pd p)), o3, o4, o5, o6, o7] = .ok .nx [o0, o1, some (.sh (pd p)), o3, o4, o5, o6', o7])
  | [], o6 => .inr ⟨rfl, o6, rfl⟩
  | r :: rows, o6 => by
    have g0 : gIx (rd r) (.int 0) = some (pd r.p) := rfl
    have ge := gEq_pd r.p p
    have tn : tName 6 (rd r) [o0, o1, some (.sh (pd p)), o3, o4, o5, o6, o7] = some [o0, o1, some (.sh (pd p)), o3, o4, o5, some (.sh (rd r)), o7] := rfl
    rw [List.map_cons, v_lp1, tn, v_lpO, List.find?_cons]
    by_cases h : r.p = p
    · rw [decide_eq_true h] at ge
      refine .inl ⟨r, by rw [decide_eq_true h], ?_⟩
      have bb : rowB [o0, o1, some (.sh (pd p)), o3, o4, o5, some (.sh (rd r)), o7] = .ok (.rt (.sh (rd r))) [o0, o1, some (.sh (pd p)), o3, o4, o5, none, o7] := by
        unfold rowB
        simp? only [g0, ge]
      rw [bb, v_lpr]
    · rw [decide_eq_false h] at ge
      have bb : rowB [o0, o1, some (.sh (pd p)), o3, o4, o5, some (.sh (rd r)), o7] = .ok .nx [o0, o1, some (.sh (pd p)), o3, o4, o5, some (.sh (rd r)), o7] := by
        unfold rowB
        simp? only [g0, ge]
      rw [bb, v_lpn, decide_eq_false h]
      exact row_loop rows (some (.sh (rd r)))
theorem tg7 (a b c d e f g : PyData) : tupG [a, b, c, d, e, f, g] = some (.tuple [a, b, c, d, e, f, g]) := if_pos (show 7 ≤ sizeLine by decide)
theorem row_ok (l : Lot) (town : Str) (p : Hand × Hand) : fn_row_of [some (.sh (lotD l)), some (.sh (.str town)), some (.sh (pd p))] = .ok (.sh (rd (ownRow l town p))) [none, none, none] := by
  have et : tTup [tName 3, tName 4, tName 5] (lotD l) [some (.sh (lotD l)), some (.sh (.str town)), some (.sh (pd p)), none, none, none, none, none] =
    some [some (.sh (lotD l)), some (.sh (.str town)), some (.sh (pd p)), some (.sh (.int l.turn)), some (.sh (.int l.floor)), some (.sh (.tuple (l.rows.map rd))), none, none] := rfl
  have hm := home_ok p
  have ge := gEq_str2 town p.2.1
  unfold fn_row_of m_row_of
  rcases row_loop (o0 := some (.sh (lotD l))) (o1 := some (.sh (.str town))) (o3 := some (.sh (.int l.turn))) (o4 := some (.sh (.int l.floor))) (o5 := some (.sh (.tuple (l.rows.map rd)))) (o7 := none) (p := p) l.rows none with ⟨r, hf, e⟩ | ⟨hf, o6', e⟩
  · unfold rowB at e
    have eo : ownRow l town p = r := by unfold ownRow; rw [hf]
    rw [eo]
    simp? only [et, Option.getD_some]
    rw [e]
    simp? only []
  · unfold rowB at e
    simp? only [et, Option.getD_some]
    rw [e]
    by_cases h : town = p.2.1
    · rw [decide_eq_true h] at ge
      have eo : ownRow l town p = ⟨p, l.turn, 0, p.2.1, p.2.1, 0, l.floor, true⟩ := by unfold ownRow; rw [hf]; exact if_pos h
      rw [eo]
      simp? only [hm, ge, tg2, tg7]
      rfl
    · rw [decide_eq_false h] at ge
      have eo : ownRow l town p = ⟨p, 0, 0, p.2.1, p.2.1, 0, 0, false⟩ := by unfold ownRow; rw [hf]; exact if_neg h
      rw [eo]
      simp? only [hm, ge, tg2, tg7]
      rfl
theorem holds_ok (r : Row) (town : Str) : fn_holds [some (.sh (rd r)), some (.sh (.str town))] = .ok (.sh (.bool (mine r town))) [none, none] := by
  have et : tTup [tName 2, tName 2, tName 3, tName 2, tName 2, tName 2, tName 4] (rd r) [some (.sh (rd r)), some (.sh (.str town)), none, none, none] = some [some (.sh (rd r)), some (.sh (.str town)), some (.sh (.int r.free)), some (.sh (.str r.place)), some (.sh (.bool r.here))] := rfl
  have ge := gEq_str2 r.place town
  unfold fn_holds m_holds mine
  by_cases h : r.place = town
  · rw [decide_eq_true h] at ge ⊢
    simp? only [et, Option.getD_some, v_andV, ge]
    rfl
  · rw [decide_eq_false h] at ge ⊢
    simp? only [et, Option.getD_some, v_andV, ge]
    rfl
theorem mine_ok (l : Lot) (town : Str) (p : Hand × Hand) : fn_is_mine [some (.sh (lotD l)), some (.sh (.str town)), some (.sh (pd p))] = .ok (.sh (.bool (mine (ownRow l town p) town))) [none, none, none] := by
  have h1 := row_ok l town p
  have h2 := holds_ok (ownRow l town p) town
  unfold fn_is_mine m_is_mine
  simp? only [h1, h2]
theorem burn_ok (l : Lot) (town : Str) (p : Hand × Hand) (day : Int) : fn_burn_bars [some (.sh (lotD l)), some (.sh (.str town)), some (.sh (pd p)), some (.sh (.int day))] = .ok (.sh (barD (ownRow l town p) town day)) [none, none, none, none] := by
  have h1 := row_ok l town p
  generalize ownRow l town p = r at h1 ⊢
  have h2 := holds_ok r town
  have et : ∀ x y z : Option OD, tTup [tName 5, tName 5, tName 6, tName 5, tName 5, tName 7, tName 5] (rd r) [some (.sh (lotD l)), some (.sh (.str town)), some (.sh (pd p)), some (.sh (.int day)), some (.sh (rd r)), x, y, z] =
    some [some (.sh (lotD l)), some (.sh (.str town)), some (.sh (pd p)), some (.sh (.int day)), some (.sh (rd r)), some (.sh (.bool r.here)), some (.sh (.str r.place)), some (.sh (.int r.free))] := fun _ _ _ => rfl
  unfold fn_burn_bars m_burn_bars barD
  cases hm : mine r town with
  | false =>
    rw [hm] at h2
    simp? only [h1, h2, et, Option.getD_some]
  | true =>
    rw [hm] at h2
    by_cases hd : day < r.free
    · simp? only [h1, h2, et, Option.getD_some, gGt_int, hd, decide_true]
    · simp? only [h1, h2, et, Option.getD_some, gGt_int, hd, decide_false]
/-! ### the law's own -/
theorem rd_depth (r : Row) : (rd r).depth ≤ 3 := by simp [rd, pd, hd, PyData.depth, PyData.depthAll]
theorem own_ok (l : Lot) (town : Str) (p : Hand × Hand) (hl : l.rows.length ≤ 1000) : fn_own [some (.sh (lotD l)), some (.sh (.str town)), some (.sh (pd p))] = .ok (.sh (rd (ownRow l town p))) [none, none, none] := by
  have z := sizeLine_eq
  have g2 : gIx (lotD l) (.int 2) = some (.tuple (l.rows.map rd)) := rfl
  have gt : gIx (lotD l) (.int 0) = some (.int l.turn) := rfl
  have gf : gIx (lotD l) (.int 1) = some (.int l.floor) := rfl
  have gp : gIx (pd p) (.int 1) = some (hd p.2) := rfl
  have gh : gIx (hd p.2) (.int 0) = some (.str p.2.1) := rfl
  obtain ⟨ρ', ⟨o5, hρ⟩, e⟩ := lc_filt (t := tName 5) (mt := (m2 gEq ((m2 gIx (mSlot 5) ((M.ret (.int 0)).bind fun d => M.ret (.dat d))).bind fun d => M.ret (.dat d)) (mSlot 2)).bind asBool) (me := mName 5) (vs := [5])
    (Inv := fun ρ => ∃ o, ρ = [some (.sh (lotD l)), some (.sh (.str town)), some (.sh (pd p)), none, none, o]) (fun d => match gIx d (.int 0) with | some q => PyData.eqv q (pd p) | none => false) id (l.rows.map rd) [] [some (.sh (lotD l)), some (.sh (.str town)), some (.sh (pd p)), none, none, none] ⟨none, rfl⟩
    (by rw [List.length_nil, List.length_map]; omega) (fun x hx ρ ⟨o, hρ⟩ => by
      obtain ⟨r, _, rfl⟩ := List.mem_map.mp hx
      subst hρ
      have g0 : gIx (rd r) (.int 0) = some (pd r.p) := rfl
      have ge := gEq_pd r.p p
      refine ⟨[some (.sh (lotD l)), some (.sh (.str town)), some (.sh (pd p)), none, none, some (.sh (rd r))], [some (.sh (lotD l)), some (.sh (.str town)), some (.sh (pd p)), none, none, some (.sh (rd r))], rfl, ?_, fun _ => ⟨_, rfl⟩, fun _ => ⟨[some (.sh (lotD l)), some (.sh (.str town)), some (.sh (pd p)), none, none, some (.sh (rd r))], ?_, ⟨_, rfl⟩⟩⟩
      · simp only [g0]
        rw [eqv_pd]
        simp? only [g0, ge]
      · simp? only []
        rfl)
  subst hρ
  have ef : ((l.rows.map rd).filter (fun d => match gIx d (.int 0) with | some q => PyData.eqv q (pd p) | none => false)).map id = (l.rows.filter fun r => decide (r.p = p)).map rd := by
    rw [List.map_id, List.filter_map]
    congr 1
    refine List.filter_congr fun r _ => ?_
    show PyData.eqv (pd r.p) (pd p) = _
    exact eqv_pd r.p p
  rw [ef, List.nil_append] at e
  have hd1 : (l.rows.filter fun r => decide (r.p = p)).head? = l.rows.find? fun r => decide (r.p = p) := List.head?_filter
  have rr : ∀ x y : Option OD, restR [some (.sh (lotD l)), some (.sh (.str town)), some (.sh (pd p)), none, none, x] [some (.sh (lotD l)), some (.sh (.str town)), some (.sh (pd p)), none, none, y] [5] = [some (.sh (lotD l)), some (.sh (.str town)), some (.sh (pd p)), none, none, x] := fun _ _ => rfl
  have l0 : lstG [] = some (.ol []) := if_pos (Nat.zero_le _)
  unfold fn_own m_own
  generalize l.rows.filter (fun r => decide (r.p = p)) = fl at e hd1
  cases fl with
  | nil =>
    have hf : (l.rows.find? fun r => decide (r.p = p)) = none := hd1.symm
    have gn : gNe (.list []) (.list []) = some (.bool false) := rfl
    have ge := gEq_str2 p.2.1 town
    rw [List.map_nil] at e
    by_cases h : town = p.2.1
    · rw [decide_eq_true h.symm] at ge
      have eo : ownRow l town p = ⟨p, l.turn, 0, p.2.1, p.2.1, 0, l.floor, true⟩ := by unfold ownRow; rw [hf]; exact if_pos h
      rw [eo]
      simp? only [v_comp, g2]
      rw [e]
      simp? only [v_cpk, List.length_cons, List.length_nil, rr, l0, gn, gp, gh, ge, gt, gf, tg2, tg7]
      rfl
    · rw [decide_eq_false fun q => h q.symm] at ge
      have eo : ownRow l town p = ⟨p, 0, 0, p.2.1, p.2.1, 0, 0, false⟩ := by unfold ownRow; rw [hf]; exact if_neg h
      rw [eo]
      simp? only [v_comp, g2]
      rw [e]
      simp? only [v_cpk, List.length_cons, List.length_nil, rr, l0, gn, gp, gh, ge, gt, gf, tg2, tg7]
      rfl
  | cons r fl =>
    have hf : (l.rows.find? fun r => decide (r.p = p)) = some r := hd1.symm
    have eo : ownRow l town p = r := by unfold ownRow; rw [hf]
    have gn : gNe (.list (rd r :: fl.map rd)) (.list []) = some (.bool true) := by
      have sm : small (.list (rd r :: fl.map rd)) = true := decide_eq_true (by
        rw [PyData.depth]
        have := depth_all 3 (ds := rd r :: fl.map rd) fun d hd => by
          rcases List.mem_cons.mp hd with rfl | hd
          · exact rd_depth r
          · obtain ⟨q, _, rfl⟩ := List.mem_map.mp hd
            exact rd_depth q
        omega)
      have ev : PyData.eqv (.list (rd r :: fl.map rd)) (.list []) = false := by simp [PyData.eqv, PyData.eqvAll]
      unfold gNe
      rw [if_pos sm, ev]
      rfl
    have g0 : gIx (.list (rd r :: fl.map rd)) (.int 0) = some (rd r) := by
      show L2.atI _ 0 = _
      unfold L2.atI ixN
      simp
    rw [eo]
    rw [List.map_cons] at e
    simp? only [v_comp, g2]
    rw [e]
    simp? only [v_cpk, List.length_cons, List.length_nil, rr, l0, gn, g0]
end Lw
namespace Lw
open PySem L2 PySem.W PySem.SeqAt Eg
theorem bar_ok (l : Lot) (town : Str) (p : Hand × Hand) (day : Int) (hl : l.rows.length ≤ 1000) : fn_bar [some (.sh (lotD l)), some (.sh (.str town)), some (.sh (pd p)), some (.sh (.int day))] = .ok (.sh (barD (ownRow l town p) town day)) [none, none, none, none] := by
  have h1 := own_ok l town p hl
  generalize ownRow l town p = r at h1 ⊢
  have g2 : gIx (rd r) (.int 2) = some (.str r.place) := rfl
  have g5 : gIx (rd r) (.int 5) = some (.int r.free) := rfl
  have g6 : gIx (rd r) (.int 6) = some (.bool r.here) := rfl
  have gn := gNe_str2 r.place town
  unfold fn_bar m_bar barD mine
  by_cases h : r.place = town
  · rw [decide_eq_true h] at gn ⊢
    cases hh : r.here with
    | false =>
      rw [hh] at g6
      simp? only [h1, g2, g5, g6, gn]
      rfl
    | true =>
      rw [hh] at g6
      by_cases hd : day < r.free
      · simp? only [h1, g2, g5, g6, gn, gGt_int, hd, decide_true]
        rfl
      · simp? only [h1, g2, g5, g6, gn, gGt_int, hd, decide_false]
        rfl
  · rw [decide_eq_false h] at gn ⊢
    simp? only [h1, g2, g5, g6, gn]
    rfl
/-! ### what is shown -/
def IntF (i : Int) : Prop := (PyData.int i).showable = true ∧ (PyData.int i).shown.length ≤ 50
instance : DecidablePred IntF := fun i => by unfold IntF; infer_instance
def StrF (x : Str) : Prop := (reprText x).length ≤ 20
instance : DecidablePred StrF := fun i => by unfold StrF; infer_instance
def PairF (p : Hand × Hand) : Prop := (StrF p.1.1 ∧ StrF p.1.2) ∧ StrF p.2.1 ∧ StrF p.2.2
structure RowF (r : Row) : Prop where
  p : PairF r.p
  a : IntF r.a
  b : IntF r.b
  place : StrF r.place
  giver : StrF r.giver
  u : IntF r.u
  free : IntF r.free
theorem _root_.Eg.Sh.mono {n m k l : Nat} {d : PyData} (h : Sh n k d) (hn : n ≤ m) (hk : k ≤ l) : Sh m l d := ⟨h.1, Nat.le_trans h.2.1 hn, Nat.le_trans h.2.2 hk⟩
theorem Sh.int {i : Int} (h : IntF i) : Sh 50 0 (.int i) := ⟨h.1, h.2, by rw [PyData.depth]; exact Nat.le_refl _⟩
theorem Sh.bool (b : Bool) : Sh 50 0 (.bool b) := by cases b <;> exact ⟨by rw [PyData.showable], by decide +kernel, by rw [PyData.depth]; exact Nat.le_refl _⟩
theorem Sh.none : Sh 50 0 .none := ⟨by rw [PyData.showable], by decide +kernel, by rw [PyData.depth]; exact Nat.le_refl _⟩
theorem Sh.strF {x : Str} (h : StrF x) : Sh 50 0 (.str x) := (Sh.str h).mono (by decide) (Nat.le_refl _)
theorem Sh.hd {h : Hand} (a : StrF h.1) (b : StrF h.2) : Sh 107 1 (hd h) := Sh.tuple (n := 50) (k := 0) (m := 2) (fun d hd => by
  simp at hd
  rcases hd with rfl | rfl
  · exact Sh.strF a
  · exact Sh.strF b) (Nat.le_refl _)
theorem Sh.pd {p : Hand × Hand} (h : PairF p) : Sh 221 2 (pd p) := Sh.tuple (n := 107) (k := 1) (m := 2) (fun d hd => by
  simp at hd
  rcases hd with rfl | rfl
  · exact Sh.hd h.1.1 h.1.2
  · exact Sh.hd h.2.1 h.2.2) (Nat.le_refl _)
theorem Sh.rd {r : Row} (h : RowF r) : Sh 1564 3 (rd r) := Sh.tuple (n := 221) (k := 2) (m := 7) (fun d hd => by
  simp at hd
  rcases hd with rfl | rfl | rfl | rfl | rfl | rfl | rfl
  · exact Sh.pd h.p
  · refine Sh.mono (Sh.tuple (n := 50) (k := 0) (m := 2) (ds := [.int r.a, .int r.b]) (fun d hd => ?_) (Nat.le_refl 2)) (by decide) (by decide)
    simp at hd
    rcases hd with rfl | rfl
    · exact Sh.int h.a
    · exact Sh.int h.b
  · exact (Sh.strF h.place).mono (by decide) (by decide)
  · exact (Sh.strF h.giver).mono (by decide) (by decide)
  · exact (Sh.int h.u).mono (by decide) (by decide)
  · exact (Sh.int h.free).mono (by decide) (by decide)
  · exact (Sh.bool r.here).mono (by decide) (by decide)) (Nat.le_refl _)
structure LotF (l : Lot) : Prop where
  turn : IntF l.turn
  floor : IntF l.floor
  len : l.rows.length ≤ 100
  rows : ∀ r ∈ l.rows, RowF r
theorem int0 : IntF 0 := by decide +kernel
theorem own_fine {l : Lot} (h : LotF l) (town : Str) {p : Hand × Hand} (hp : PairF p) : RowF (ownRow l town p) := by
  unfold ownRow
  cases q : l.rows.find? fun r => decide (r.p = p) with
  | some r => exact h.rows r (List.mem_of_find?_eq_some q)
  | none =>
    simp only
    split
    · exact ⟨hp, h.turn, int0, hp.2.1, hp.2.1, int0, h.floor⟩
    · exact ⟨hp, int0, int0, hp.2.1, hp.2.1, int0, int0⟩
theorem lot_repr {l : Lot} (h : LotF l) : gRepr [lotD l] = some (.sh (.str (lotD l).shown)) := by
  have s1 : Sh 156603 4 (.tuple (l.rows.map rd)) := Sh.tuple (n := 1564) (k := 3) (m := 100) (fun d hd => by obtain ⟨r, hr, rfl⟩ := List.mem_map.mp hd; exact Sh.rd (h.rows r hr)) (by rw [List.length_map]; exact h.len)
  refine Sh.repr (Sh.tuple (n := 156603) (k := 4) (m := 3) (fun d hd => ?_) (Nat.le_refl _)) (by decide) (by decide)
  simp at hd
  rcases hd with rfl | rfl | rfl
  · exact (Sh.int h.turn).mono (by decide) (by decide)
  · exact (Sh.int h.floor).mono (by decide) (by decide)
  · exact s1
theorem bar_sh {r : Row} (h : RowF r) (town : Str) (day : Int) : Sh 50 0 (barD r town day) := by
  unfold barD
  split
  · split
    · exact Sh.int h.free
    · exact Sh.none
  · exact Sh.strF h.place
theorem bar_repr {r : Row} (h : RowF r) (town : Str) (day : Int) : gRepr [barD r town day] = some (.sh (.str (barD r town day).shown)) := (bar_sh h town day).repr (by decide) (by decide)
end Lw
namespace Lw
open PySem L2 PySem.W PySem.SeqAt Eg
theorem ints30 : ∀ i : Fin 30, IntF ((i.val : Nat) : Int) := by decide +kernel
theorem intF30 {i : Int} (h : 0 ≤ i) (h2 : i < 30) : IntF i := by
  obtain ⟨n, rfl⟩ := Int.eq_ofNat_of_zero_le h
  exact ints30 ⟨n, by omega⟩
theorem gIx_str {ts : List Str} {v : Int} (h0 : 0 ≤ v) (h1 : v < ts.length) : ∃ x ∈ ts, gIx (.list (ts.map .str)) (.int v) = some (.str x) := by
  have hl : v.toNat < ts.length := by omega
  refine ⟨ts[v.toNat], List.getElem_mem hl, ?_⟩
  show L2.atI (ts.map PyData.str) v = _
  unfold L2.atI ixN
  simp [h0, h1, List.getElem?_eq_getElem hl]
/-- a drawn row -/
theorem row_new {kvs : List (Key × PyData)} {k : Nat} {ts : List Str} {p : Hand × Hand} (h : TapAt kvs k) (hk : k < 900000) (h1 : 1 ≤ ts.length) (h2 : ts.length ≤ 100) (hp : PairF p) (hs : ∀ x ∈ ts, StrF x) : ∃ (r : Row) (kvs' : List (Key × PyData)), r.p = p ∧ RowF r ∧ TapAt kvs' (k + 10) ∧
    fn_row [some (.od kvs), some (.sh (pd p)), some (.sh (.list (ts.map .str)))] = .ok (.sh (rd r)) [some (.od kvs'), none, none] := by
  obtain ⟨v1, k1, a1, b1, t1, e1⟩ := take_at h (by omega) (show (0 : Int) < 3 by decide) (by decide)
  obtain ⟨v2, k2, a2, b2, t2, e2⟩ := take_at t1 (by omega) (show (0 : Int) < 4 by decide) (by decide)
  obtain ⟨v3, k3, a3, b3, t3, e3⟩ := take_at t2 (by omega) (show (0 : Int) < (ts.length : Int) by omega) (by omega)
  obtain ⟨v4, k4, a4, b4, t4, e4⟩ := take_at t3 (by omega) (show (0 : Int) < (ts.length : Int) by omega) (by omega)
  obtain ⟨v5, k5, a5, b5, t5, e5⟩ := take_at t4 (by omega) (show (0 : Int) < 3 by decide) (by decide)
  obtain ⟨v6, k6, a6, b6, t6, e6⟩ := take_at t5 (by omega) (show (0 : Int) < 30 by decide) (by decide)
  obtain ⟨v7, k7, a7, b7, t7, e7⟩ := take_at t6 (by omega) (show (0 : Int) < 2 by decide) (by decide)
  obtain ⟨x, hx, g3⟩ := gIx_str a3 b3
  obtain ⟨y, hy, g4⟩ := gIx_str a4 b4
  have gl : gLen [.list (ts.map .str)] = some (.sh (.int (ts.length : Int))) := by rw [gLen_any, List.length_map]
  refine ⟨⟨p, v1, v2, x, y, v5, v6, decide (v7 = 0)⟩, k7, rfl, ⟨hp, intF30 a1 (Int.lt_trans b1 (by decide)), intF30 a2 (Int.lt_trans b2 (by decide)), hs x hx, hs y hy, intF30 a5 (Int.lt_trans b5 (by decide)), intF30 a6 b6⟩, t7.mono (by omega), ?_⟩
  unfold fn_row m_row
  simp? only [e1, e2, tg2, gl, e3, g3, e4, g4, e5, e6, e7, gEq_int, tg7]
  rfl
/-! ### a lot -/
def lotT : M Bool := ((m2 gGt (((mCallO fn_take (mCons (mSlot 0) (mCons ((M.ret (.int 3)).bind fun d => M.ret (.dat d)) (mNil)))).bind fz).bind fun d => M.ret (.dat d)) ((M.ret (.int 0)).bind fun d => M.ret (.dat d))).bind asBool)
def lotE : M PyData := ((mCallO fn_row (mCons (mSlot 0) (mCons ((mName 4).bind fun d => M.ret (.dat d)) (mCons ((mName 2).bind fun d => M.ret (.dat d)) (mNil))))).bind fz)
theorem lot_loop {ts : List Str} {o1 : Option OD} (h1 : 1 ≤ ts.length) (h2 : ts.length ≤ 100) (hs : ∀ x ∈ ts, StrF x) : ∀ (ps : List (Hand × Hand)) (acc : List Row) (kvs : List (Key × PyData)) (k : Nat) (o3 o4 : Option OD), TapAt kvs k → k + 20 * ps.length < 800000 → acc.length + ps.length ≤ 1000 → (∀ p ∈ ps, PairF p) →
    ∃ (rows : List Row) (kvs' : List (Key × PyData)) (o4' : Option OD), (∀ r ∈ rows, RowF r) ∧ rows.length ≤ ps.length ∧ TapAt kvs' (k + 20 * ps.length) ∧
      lcGo (tName 4) lotT lotE [4] (ps.map pd) (acc.map rd) [some (.od kvs), o1, some (.sh (.list (ts.map .str))), o3, o4] = .ok ((acc ++ rows).map rd) [some (.od kvs'), o1, some (.sh (.list (ts.map .str))), o3, o4']
  | [], acc, kvs, k, o3, o4, ht, _, _, _ => ⟨[], kvs, o4, fun r h => (by cases h), Nat.le_refl _, ht, by rw [List.append_nil]; rfl⟩
  | p :: ps, acc, kvs, k, o3, o4, ht, hk, ha, hp => by
    rw [List.length_cons] at hk ha
    have z := sizeLine_eq
    obtain ⟨v1, k1, a1, b1, t1, e1⟩ := take_at ht (by omega) (show (0 : Int) < 3 by decide) (by decide)
    have tn : tName 4 (pd p) (wipeR [some (.od kvs), o1, some (.sh (.list (ts.map .str))), o3, o4] [4]) = some [some (.od kvs), o1, some (.sh (.list (ts.map .str))), o3, some (.sh (pd p))] := rfl
    have tt : lotT [some (.od kvs), o1, some (.sh (.list (ts.map .str))), o3, some (.sh (pd p))] = .ok (decide (0 < v1)) [some (.od k1), o1, some (.sh (.list (ts.map .str))), o3, some (.sh (pd p))] := by
      unfold lotT
      simp? only [e1, gGt_int]
    by_cases hv : 0 < v1
    · obtain ⟨r, k2, rp, rf, t2, e2⟩ := row_new t1 (by omega) h1 h2 (hp p List.mem_cons_self) hs
      obtain ⟨rows, k3, o4', rs, rl, t3, e3⟩ := lot_loop (o1 := o1) h1 h2 hs ps (acc ++ [r]) k2 (k + 1 + 10) o3 (some (.sh (pd p))) t2 (by omega) (by rw [List.length_append, List.length_singleton]; omega) fun q hq => hp q (List.mem_cons_of_mem _ hq)
      refine ⟨r :: rows, k3, o4', fun q hq => ?_, by rw [List.length_cons, List.length_cons]; omega, t3.mono (by rw [List.length_cons]; omega), ?_⟩
      · rcases List.mem_cons.mp hq with rfl | hq
        · exact rf
        · exact rs q hq
      · have ee : lotE [some (.od k1), o1, some (.sh (.list (ts.map .str))), o3, some (.sh (pd p))] = .ok (rd r) [some (.od k2), o1, some (.sh (.list (ts.map .str))), o3, some (.sh (pd p))] := by
          unfold lotE
          simp? only [e2]
        rw [List.map_cons]
        simp only [lcGo, tn, tt, decide_eq_true hv, ee]
        rw [if_pos (by rw [List.length_map]; omega)]
        have m1 : acc.map rd ++ [rd r] = (acc ++ [r]).map rd := by rw [List.map_append]; rfl
        rw [m1, e3, List.append_assoc]
        rfl
    · obtain ⟨rows, k3, o4', rs, rl, t3, e3⟩ := lot_loop (o1 := o1) h1 h2 hs ps acc k1 (k + 1) o3 (some (.sh (pd p))) t1 (by omega) (by omega) fun q hq => hp q (List.mem_cons_of_mem _ hq)
      refine ⟨rows, k3, o4', rs, by rw [List.length_cons]; omega, t3.mono (by rw [List.length_cons]; omega), ?_⟩
      rw [List.map_cons]
      simp only [lcGo, tn, tt, decide_eq_false hv]
      exact e3
theorem tg3 (a b c : PyData) : tupG [a, b, c] = some (.tuple [a, b, c]) := if_pos (show 3 ≤ sizeLine by decide)
theorem lot_new {kvs : List (Key × PyData)} {k : Nat} {ts : List Str} {ps : List (Hand × Hand)} (h : TapAt kvs k) (hk : k < 100000) (h1 : 1 ≤ ts.length) (h2 : ts.length ≤ 100) (hp : ∀ p ∈ ps, PairF p) (hl : ps.length ≤ 100) (hs : ∀ x ∈ ts, StrF x) : ∃ (l : Lot) (kvs' : List (Key × PyData)), LotF l ∧ TapAt kvs' (k + 3000) ∧
    fn_lot [some (.od kvs), some (.sh (.list (ps.map pd))), some (.sh (.list (ts.map .str)))] = .ok (.sh (lotD l)) [some (.od kvs'), none, none] := by
  obtain ⟨rows, k1, o4', rs, rl, t1, e1⟩ := lot_loop (o1 := some (.sh (.list (ps.map pd)))) h1 h2 hs ps [] kvs k none none h (by omega) (by rw [List.length_nil]; omega) hp
  obtain ⟨v2, k2, a2, b2, t2, e2⟩ := take_at t1 (by omega) (show (0 : Int) < 3 by decide) (by decide)
  obtain ⟨v3, k3, a3, b3, t3, e3⟩ := take_at t2 (by omega) (show (0 : Int) < 30 by decide) (by decide)
  refine ⟨⟨v2, v3, rows⟩, k3, ⟨intF30 a2 (Int.lt_trans b2 (by decide)), intF30 a3 b3, by show rows.length ≤ 100; omega, rs⟩, t3.mono (by omega), ?_⟩
  rw [List.nil_append, List.map_nil] at e1
  have gt : ∀ ds : List PyData, gTuple [.list ds] = some (.sh (.tuple ds)) := fun _ => rfl
  unfold fn_lot m_lot
  simp? only [v_comp]
  unfold lotT lotE at e1
  rw [e1]
  simp? only [v_cpk, List.length_cons, List.length_nil, v_rs0, v_rs1, gt, e2, e3, tg3]
  rfl
end Lw
namespace Eg
open PySem L2 PySem.W PySem.SeqAt
theorem isT (b : Bool) : gIsB true (.bool b) = some (.bool b) := by cases b <;> rfl
theorem isF (b : Bool) : gIsB false (.bool b) = some (.bool (!b)) := by cases b <;> rfl
theorem notT (b : Bool) : gNotB true (.bool b) = some (.bool (!b)) := by cases b <;> rfl
theorem notF (b : Bool) : gNotB false (.bool b) = some (.bool b) := by cases b <;> rfl
theorem tuT (ds : List PyData) : gTuple [.tuple ds] = some (.sh (.tuple ds)) := rfl
theorem aAdd_int (a b : Int) : aAdd (.int a) (.int b) = some (.sh (.int (a + b))) := rfl
theorem gLen_list (c : List PyData) : gLen [.list c] = some (.sh (.int c.length)) := rfl
theorem gLen_tup (c : List PyData) : gLen [.tuple c] = some (.sh (.int c.length)) := rfl
theorem gLe_int (a b : Int) : gLe (.int a) (.int b) = some (.bool (decide (a ≤ b))) := by
  simp [gLe, cmpOk, alike, Eg.isNon, small, PyData.depth, dataLt_int]
  by_cases h : b < a
  · simp [h]
  · simp [h]; omega
theorem isN_n : gIsN .none = some (.bool true) := rfl
theorem isN_t (d : List PyData) : gIsN (.tuple d) = some (.bool false) := rfl
theorem isN_l (d : List PyData) : gIsN (.list d) = some (.bool false) := rfl
theorem isN_s (d : Str) : gIsN (.str d) = some (.bool false) := rfl
theorem isN_i (d : Int) : gIsN (.int d) = some (.bool false) := rfl
theorem isN_b (d : Bool) : gIsN (.bool d) = some (.bool false) := rfl
theorem notN_n : gNotN .none = some (.bool false) := rfl
theorem notN_t (d : List PyData) : gNotN (.tuple d) = some (.bool true) := rfl
theorem notN_l (d : List PyData) : gNotN (.list d) = some (.bool true) := rfl
theorem notN_s (d : Str) : gNotN (.str d) = some (.bool true) := rfl
theorem notN_i (d : Int) : gNotN (.int d) = some (.bool true) := rfl
theorem notN_b (d : Bool) : gNotN (.bool d) = some (.bool true) := rfl
theorem ix_t0 (a0 : PyData) (l : List PyData) : gIx (.tuple (a0 :: l)) (.int 0) = some a0 := by
  show L2.atI _ _ = _
  unfold L2.atI ixN
  simp
  first | done | (rw [if_pos (by omega)]; rfl)
theorem ix_t1 (a0 a1 : PyData) (l : List PyData) : gIx (.tuple (a0 :: a1 :: l)) (.int 1) = some a1 := by
  show L2.atI _ _ = _
  unfold L2.atI ixN
  simp
  first | done | (rw [if_pos (by omega)]; rfl)
theorem ix_t2 (a0 a1 a2 : PyData) (l : List PyData) : gIx (.tuple (a0 :: a1 :: a2 :: l)) (.int 2) = some a2 := by
  show L2.atI _ _ = _
  unfold L2.atI ixN
  simp
  first | done | (rw [if_pos (by omega)]; rfl)
theorem ix_t3 (a0 a1 a2 a3 : PyData) (l : List PyData) : gIx (.tuple (a0 :: a1 :: a2 :: a3 :: l)) (.int 3) = some a3 := by
  show L2.atI _ _ = _
  unfold L2.atI ixN
  simp
  first | done | (rw [if_pos (by omega)]; rfl)
theorem ix_t4 (a0 a1 a2 a3 a4 : PyData) (l : List PyData) : gIx (.tuple (a0 :: a1 :: a2 :: a3 :: a4 :: l)) (.int 4) = some a4 := by
  show L2.atI _ _ = _
  unfold L2.atI ixN
  simp
  first | done | (rw [if_pos (by omega)]; rfl)
theorem ix_t5 (a0 a1 a2 a3 a4 a5 : PyData) (l : List PyData) : gIx (.tuple (a0 :: a1 :: a2 :: a3 :: a4 :: a5 :: l)) (.int 5) = some a5 := by
  show L2.atI _ _ = _
  unfold L2.atI ixN
  simp
  first | done | (rw [if_pos (by omega)]; rfl)
theorem ix_t6 (a0 a1 a2 a3 a4 a5 a6 : PyData) (l : List PyData) : gIx (.tuple (a0 :: a1 :: a2 :: a3 :: a4 :: a5 :: a6 :: l)) (.int 6) = some a6 := by
  show L2.atI _ _ = _
  unfold L2.atI ixN
  simp
  first | done | (rw [if_pos (by omega)]; rfl)
theorem tyIs_int_int (i : Int) : gTyIs "int" (.int i) = some (.bool true) := rfl
theorem tyNot_int_int (i : Int) : gTyNot "int" (.int i) = some (.bool false) := rfl
theorem tyIs_int_bool (i : Bool) : gTyIs "int" (.bool i) = some (.bool false) := rfl
theorem tyNot_int_bool (i : Bool) : gTyNot "int" (.bool i) = some (.bool true) := rfl
theorem tyIs_int_str (i : Str) : gTyIs "int" (.str i) = some (.bool false) := rfl
theorem tyNot_int_str (i : Str) : gTyNot "int" (.str i) = some (.bool true) := rfl
theorem tyIs_int_list (i : List PyData) : gTyIs "int" (.list i) = some (.bool false) := rfl
theorem tyNot_int_list (i : List PyData) : gTyNot "int" (.list i) = some (.bool true) := rfl
theorem tyIs_int_tuple (i : List PyData) : gTyIs "int" (.tuple i) = some (.bool false) := rfl
theorem tyNot_int_tuple (i : List PyData) : gTyNot "int" (.tuple i) = some (.bool true) := rfl
theorem tyIs_int_NoneType : gTyIs "int" (.none) = some (.bool false) := rfl
theorem tyNot_int_NoneType : gTyNot "int" (.none) = some (.bool true) := rfl
theorem tyIs_bool_int (i : Int) : gTyIs "bool" (.int i) = some (.bool false) := rfl
theorem tyNot_bool_int (i : Int) : gTyNot "bool" (.int i) = some (.bool true) := rfl
theorem tyIs_bool_bool (i : Bool) : gTyIs "bool" (.bool i) = some (.bool true) := rfl
theorem tyNot_bool_bool (i : Bool) : gTyNot "bool" (.bool i) = some (.bool false) := rfl
theorem tyIs_bool_str (i : Str) : gTyIs "bool" (.str i) = some (.bool false) := rfl
theorem tyNot_bool_str (i : Str) : gTyNot "bool" (.str i) = some (.bool true) := rfl
theorem tyIs_bool_list (i : List PyData) : gTyIs "bool" (.list i) = some (.bool false) := rfl
theorem tyNot_bool_list (i : List PyData) : gTyNot "bool" (.list i) = some (.bool true) := rfl
theorem tyIs_bool_tuple (i : List PyData) : gTyIs "bool" (.tuple i) = some (.bool false) := rfl
theorem tyNot_bool_tuple (i : List PyData) : gTyNot "bool" (.tuple i) = some (.bool true) := rfl
theorem tyIs_bool_NoneType : gTyIs "bool" (.none) = some (.bool false) := rfl
theorem tyNot_bool_NoneType : gTyNot "bool" (.none) = some (.bool true) := rfl
theorem tyIs_str_int (i : Int) : gTyIs "str" (.int i) = some (.bool false) := rfl
theorem tyNot_str_int (i : Int) : gTyNot "str" (.int i) = some (.bool true) := rfl
theorem tyIs_str_bool (i : Bool) : gTyIs "str" (.bool i) = some (.bool false) := rfl
theorem tyNot_str_bool (i : Bool) : gTyNot "str" (.bool i) = some (.bool true) := rfl
theorem tyIs_str_str (i : Str) : gTyIs "str" (.str i) = some (.bool true) := rfl
theorem tyNot_str_str (i : Str) : gTyNot "str" (.str i) = some (.bool false) := rfl
theorem tyIs_str_list (i : List PyData) : gTyIs "str" (.list i) = some (.bool false) := rfl
theorem tyNot_str_list (i : List PyData) : gTyNot "str" (.list i) = some (.bool true) := rfl
theorem tyIs_str_tuple (i : List PyData) : gTyIs "str" (.tuple i) = some (.bool false) := rfl
theorem tyNot_str_tuple (i : List PyData) : gTyNot "str" (.tuple i) = some (.bool true) := rfl
theorem tyIs_str_NoneType : gTyIs "str" (.none) = some (.bool false) := rfl
theorem tyNot_str_NoneType : gTyNot "str" (.none) = some (.bool true) := rfl
theorem tyIs_list_int (i : Int) : gTyIs "list" (.int i) = some (.bool false) := rfl
theorem tyNot_list_int (i : Int) : gTyNot "list" (.int i) = some (.bool true) := rfl
theorem tyIs_list_bool (i : Bool) : gTyIs "list" (.bool i) = some (.bool false) := rfl
theorem tyNot_list_bool (i : Bool) : gTyNot "list" (.bool i) = some (.bool true) := rfl
theorem tyIs_list_str (i : Str) : gTyIs "list" (.str i) = some (.bool false) := rfl
theorem tyNot_list_str (i : Str) : gTyNot "list" (.str i) = some (.bool true) := rfl
theorem tyIs_list_list (i : List PyData) : gTyIs "list" (.list i) = some (.bool true) := rfl
theorem tyNot_list_list (i : List PyData) : gTyNot "list" (.list i) = some (.bool false) := rfl
theorem tyIs_list_tuple (i : List PyData) : gTyIs "list" (.tuple i) = some (.bool false) := rfl
theorem tyNot_list_tuple (i : List PyData) : gTyNot "list" (.tuple i) = some (.bool true) := rfl
theorem tyIs_list_NoneType : gTyIs "list" (.none) = some (.bool false) := rfl
theorem tyNot_list_NoneType : gTyNot "list" (.none) = some (.bool true) := rfl
theorem tyIs_tuple_int (i : Int) : gTyIs "tuple" (.int i) = some (.bool false) := rfl
theorem tyNot_tuple_int (i : Int) : gTyNot "tuple" (.int i) = some (.bool true) := rfl
theorem tyIs_tuple_bool (i : Bool) : gTyIs "tuple" (.bool i) = some (.bool false) := rfl
theorem tyNot_tuple_bool (i : Bool) : gTyNot "tuple" (.bool i) = some (.bool true) := rfl
theorem tyIs_tuple_str (i : Str) : gTyIs "tuple" (.str i) = some (.bool false) := rfl
theorem tyNot_tuple_str (i : Str) : gTyNot "tuple" (.str i) = some (.bool true) := rfl
theorem tyIs_tuple_list (i : List PyData) : gTyIs "tuple" (.list i) = some (.bool false) := rfl
theorem tyNot_tuple_list (i : List PyData) : gTyNot "tuple" (.list i) = some (.bool true) := rfl
theorem tyIs_tuple_tuple (i : List PyData) : gTyIs "tuple" (.tuple i) = some (.bool true) := rfl
theorem tyNot_tuple_tuple (i : List PyData) : gTyNot "tuple" (.tuple i) = some (.bool false) := rfl
theorem tyIs_tuple_NoneType : gTyIs "tuple" (.none) = some (.bool false) := rfl
theorem tyNot_tuple_NoneType : gTyNot "tuple" (.none) = some (.bool true) := rfl
end Eg
local macro_rules | `(tactic| simp! only [$ls,*]) => `(tactic| simp -implicitDefEqProofs only [Eg.v_bind, Eg.v_go, Eg.v_ret, Eg.v_get, Eg.v_lift, Eg.v_opt, Eg.v_seq, Eg.v_sqn, Eg.v_sqr, Eg.v_sqb, Eg.v_sqc, Eg.v_set, Eg.v_sret, Eg.v_if, Eg.v_mif, Eg.v_next, Eg.v_expr, Eg.v_dat, Eg.v_slot, Eg.v_sd, Eg.v_so, Eg.v_m2, Eg.v_m2k, Eg.v_m1, Eg.v_m1k, Eg.v_mL, Eg.v_mLk, Eg.v_rl0, Eg.v_rl1, Eg.v_nil, Eg.v_cons, Eg.v_fix, Eg.v_fix0, Eg.v_fix1, Eg.v_fzs, Eg.v_fzo, Eg.v_ab, Eg.v_not, Eg.v_and, Eg.v_or, Eg.v_ai, Eg.v_fn, Eg.v_fin, Eg.v_fin2, Eg.v_kp0, Eg.v_kpt, Eg.v_kpf, Eg.v_slo, Eg.v_mslot, Eg.v_name, Eg.v_nms, Eg.v_nmo, Eg.v_take, Eg.v_tks, Eg.v_tko, Eg.v_has, Eg.v_hask, Eg.v_dget, Eg.v_dgk, Eg.v_dgo, Eg.v_put, Eg.v_putk, Eg.v_puto, Eg.v_app, Eg.v_apo, Eg.v_ol, Eg.v_olk, Eg.v_callO, Eg.v_coK, Eg.v_coO, Eg.v_coR, Eg.v_as0, Eg.v_asd, Eg.v_ass, Eg.v_asod, Eg.v_asoc, Eg.v_call, Eg.v_caO, Eg.v_caR, Eg.v_for, Eg.v_lpO, Eg.v_lpn, Eg.v_lpr, Eg.v_tn, Eg.v_sil, Eg.v_sit, Eg.v_par, Eg.v_un, List.map_cons, List.map_nil, List.getElem?_cons_zero, List.getElem?_cons_succ, List.set_cons_zero, List.set_cons_succ, List.replicate_succ, List.replicate_zero, List.cons_append, List.nil_append, Option.bind_eq_bind, Option.bind_some, Option.map_some, if_true, Bool.false_eq_true, if_false, Bool.not_true, Bool.not_false, Eg.v_chain, Eg.v_op2, Eg.v_txt, Eg.v_tt, Eg.v_tl, Eg.v_go0, Eg.v_go1, Eg.isT, Eg.isF, Eg.notT, Eg.notF, Eg.v_truB, Eg.v_truI, Eg.v_truL, Eg.v_truT, Eg.v_truN, Eg.v_andV, Eg.v_orV, Eg.v_notV, Eg.v_neg, Eg.tp0, Eg.tp1, Eg.tp2, Eg.tp3, Eg.tp4, Eg.tp5, Eg.tp6, Eg.tp7, Eg.ls0, Eg.ls1, Eg.ls2, Eg.ls3, Eg.ls4, Eg.ls5, Eg.ls6, Eg.ls7, Eg.tuL, Eg.tuT, decide_true, decide_false, Eg.v_sl, Eg.gLen_list, Eg.gLen_tup, Eg.gGt_int, Eg.gLt_int, Eg.gGe_int, Eg.gLe_int, Eg.gEq_int, Eg.gNe_int, Eg.aAdd_int, Eg.v_app2, Eg.gNe_strR, Eg.gEq_strR, List.isEmpty_nil, List.isEmpty_cons, Bool.true_and, Bool.false_and, Bool.and_true, Bool.and_false, eq_self, Option.getD_some, Eg.isN_n, Eg.isN_t, Eg.isN_l, Eg.isN_s, Eg.isN_i, Eg.isN_b, Eg.notN_n, Eg.notN_t, Eg.notN_l, Eg.notN_s, Eg.notN_i, Eg.notN_b, Eg.ix_t0, Eg.ix_t1, Eg.ix_t2, Eg.ix_t3, Eg.ix_t4, Eg.ix_t5, Eg.ix_t6, Eg.tyIs_int_int, Eg.tyNot_int_int, Eg.tyIs_int_bool, Eg.tyNot_int_bool, Eg.tyIs_int_str, Eg.tyNot_int_str, Eg.tyIs_int_list, Eg.tyNot_int_list, Eg.tyIs_int_tuple, Eg.tyNot_int_tuple, Eg.tyIs_int_NoneType, Eg.tyNot_int_NoneType, Eg.tyIs_bool_int, Eg.tyNot_bool_int, Eg.tyIs_bool_bool, Eg.tyNot_bool_bool, Eg.tyIs_bool_str, Eg.tyNot_bool_str, Eg.tyIs_bool_list, Eg.tyNot_bool_list, Eg.tyIs_bool_tuple, Eg.tyNot_bool_tuple, Eg.tyIs_bool_NoneType, Eg.tyNot_bool_NoneType, Eg.tyIs_str_int, Eg.tyNot_str_int, Eg.tyIs_str_bool, Eg.tyNot_str_bool, Eg.tyIs_str_str, Eg.tyNot_str_str, Eg.tyIs_str_list, Eg.tyNot_str_list, Eg.tyIs_str_tuple, Eg.tyNot_str_tuple, Eg.tyIs_str_NoneType, Eg.tyNot_str_NoneType, Eg.tyIs_list_int, Eg.tyNot_list_int, Eg.tyIs_list_bool, Eg.tyNot_list_bool, Eg.tyIs_list_str, Eg.tyNot_list_str, Eg.tyIs_list_list, Eg.tyNot_list_list, Eg.tyIs_list_tuple, Eg.tyNot_list_tuple, Eg.tyIs_list_NoneType, Eg.tyNot_list_NoneType, Eg.tyIs_tuple_int, Eg.tyNot_tuple_int, Eg.tyIs_tuple_bool, Eg.tyNot_tuple_bool, Eg.tyIs_tuple_str, Eg.tyNot_tuple_str, Eg.tyIs_tuple_list, Eg.tyNot_tuple_list, Eg.tyIs_tuple_tuple, Eg.tyNot_tuple_tuple, Eg.tyIs_tuple_NoneType, Eg.tyNot_tuple_NoneType, $ls,*])

namespace Eg
open PySem L2 PySem.W PySem.SeqAt
/-! ## any thing: how long it is written at most, how deep it is -/
mutual
def wt : PyData → Nat
  | .none => 4
  | .bool _ => 5
  | .int i => (PyData.int i).shown.length
  | .str x => (PyData.str x).shown.length + x.length + 2
  | .list ds => wtAll ds + 3
  | .tuple ds => wtAll ds + 3
  | .dict _ => 0
def wtAll : List PyData → Nat
  | [] => 0
  | d :: ds => wt d + 2 + wtAll ds
end
mutual
def good (m : Nat) : PyData → Bool
  | .none => true
  | .bool _ => true
  | .int i => decide (i.natAbs < 10 ^ m)
  | .str _ => true
  | .list ds => goodAll m ds
  | .tuple ds => goodAll m ds
  | .dict _ => false
def goodAll (m : Nat) : List PyData → Bool
  | [] => true
  | d :: ds => good m d && goodAll m ds
end
theorem goodAll_mem {m : Nat} : ∀ {ds : List PyData}, goodAll m ds = true ↔ ∀ d ∈ ds, good m d = true
  | [] => by simp [goodAll]
  | d :: ds => by
    have := goodAll_mem (m := m) (ds := ds)
    simp [goodAll, this]
mutual
theorem good_mono {m m' : Nat} (h : m ≤ m') : ∀ d : PyData, good m d = true → good m' d = true
  | .none, _ => by rw [good]
  | .bool _, _ => by rw [good]
  | .str _, _ => by rw [good]
  | .int i, g => by
    rw [good] at g ⊢
    exact decide_eq_true (Nat.lt_of_lt_of_le (of_decide_eq_true g) (Nat.pow_le_pow_right (by decide) h))
  | .list ds, g => by rw [good] at g ⊢; exact goodAll_mono h ds g
  | .tuple ds, g => by rw [good] at g ⊢; exact goodAll_mono h ds g
  | .dict _, g => by simp [good] at g
theorem goodAll_mono {m m' : Nat} (h : m ≤ m') : ∀ ds : List PyData, goodAll m ds = true → goodAll m' ds = true
  | [], _ => by rw [goodAll]
  | d :: ds, g => by
    rw [goodAll, Bool.and_eq_true] at g ⊢
    exact ⟨good_mono h d g.1, goodAll_mono h ds g.2⟩
end
theorem wtAll_mem : ∀ {ds : List PyData} {d : PyData}, d ∈ ds → wt d + 2 ≤ wtAll ds
  | e :: ds, d, h => by
    simp only [wtAll]
    rcases List.mem_cons.mp h with rfl | h
    · omega
    · have := wtAll_mem h; omega
theorem wtAll_append : ∀ (ds es : List PyData), wtAll (ds ++ es) = wtAll ds + wtAll es
  | [], es => by simp [wtAll]
  | d :: ds, es => by simp [wtAll, wtAll_append ds es]; omega
theorem wtAll_len : ∀ ds : List PyData, 2 * ds.length ≤ wtAll ds
  | [] => by simp [wtAll]
  | d :: ds => by have := wtAll_len ds; simp [wtAll]; omega
theorem wtAll_reverse (ds : List PyData) : wtAll ds.reverse = wtAll ds := by
  induction ds with
  | nil => rfl
  | cons d ds ih => rw [List.reverse_cons, wtAll_append, ih]; simp [wtAll]; omega
theorem wtAll_sub {ds es : List PyData} (h : List.Sublist ds es) : wtAll ds ≤ wtAll es := by
  induction h with
  | slnil => exact Nat.le_refl _
  | cons a _ ih => simp only [wtAll]; omega
  | cons_cons a _ ih => simp only [wtAll]; omega
mutual
theorem shown_wt {m : Nat} (hm : m ≤ 400) : ∀ d : PyData, good m d = true → d.shown.length ≤ wt d ∧ d.showable = true ∧ alike d d = true
  | .none, _ => by refine ⟨by decide +kernel, by rw [PyData.showable], by simp [alike]⟩
  | .bool b, _ => by cases b <;> exact ⟨by decide +kernel, by rw [PyData.showable], by simp [alike]⟩
  | .int i, h => by
    rw [good] at h
    have f := Fd.int (n := 400) (i := i) (Nat.lt_of_lt_of_le (of_decide_eq_true h) (Nat.pow_le_pow_right (by decide) hm))
    exact ⟨by rw [wt]; exact Nat.le_refl _, f.1.1, f.2⟩
  | .str x, _ => ⟨by rw [wt]; omega, by rw [PyData.showable], by simp [alike]⟩
  | .list ds, h => by
    rw [good] at h
    have := shown_wtAll hm ds h
    refine ⟨?_, by rw [PyData.showable]; exact this.2.1, by rw [alike]; exact this.2.2⟩
    rw [PyData.shown, wt]
    have h1 := listText_most (PyData.shownAll ds)
    omega
  | .tuple ds, h => by
    rw [good] at h
    have := shown_wtAll hm ds h
    refine ⟨?_, by rw [PyData.showable]; exact this.2.1, by rw [alike]; exact this.2.2⟩
    rw [PyData.shown, wt]
    have h1 := tupleText_most (PyData.shownAll ds)
    omega
  | .dict _, h => by simp [good] at h
theorem shown_wtAll {m : Nat} (hm : m ≤ 400) : ∀ ds : List PyData, goodAll m ds = true → PySem.piled (PyData.shownAll ds) ≤ wtAll ds ∧ PyData.showableAll ds = true ∧ alikeAll ds ds = true
  | [], _ => by simp [PyData.shownAll, PySem.piled, PyData.showableAll, alikeAll]
  | d :: ds, h => by
    rw [goodAll, Bool.and_eq_true] at h
    have h1 := shown_wt hm d h.1
    have h2 := shown_wtAll hm ds h.2
    refine ⟨?_, ?_, ?_⟩
    · rw [PyData.shownAll, PySem.piled_cons, wtAll]; omega
    · rw [PyData.showableAll, h1.2.1, h2.2.1]; rfl
    · rw [alikeAll, h1.2.2, h2.2.2]; rfl
end
structure Th (m n k : Nat) (d : PyData) : Prop where
  w : wt d ≤ n
  k : d.depth ≤ k
  g : good m d = true
  m : m ≤ 400
theorem Th.fd {m n k : Nat} {d : PyData} (h : Th m n k d) : Fd n k d := ⟨⟨(shown_wt h.m d h.g).2.1, Nat.le_trans (shown_wt h.m d h.g).1 h.w, h.k⟩, (shown_wt h.m d h.g).2.2⟩
theorem Th.mono {m m' n n' k k' : Nat} {d : PyData} (h : Th m n k d) (hn : n ≤ n') (hk : k ≤ k') (hm : m ≤ m' := by omega) (h4 : m' ≤ 400 := by omega) : Th m' n' k' d := ⟨Nat.le_trans h.w hn, Nat.le_trans h.k hk, good_mono hm d h.g, h4⟩
theorem depthAll_mem : ∀ {ds : List PyData} {d : PyData}, d ∈ ds → d.depth ≤ PyData.depthAll ds
  | e :: ds, d, h => by
    simp only [PyData.depthAll]
    rcases List.mem_cons.mp h with rfl | h
    · omega
    · have := depthAll_mem h; omega
/-- of several things together -/
structure Ths (m n k : Nat) (ds : List PyData) : Prop where
  w : wtAll ds ≤ n
  k : ∀ d ∈ ds, d.depth ≤ k
  g : ∀ d ∈ ds, good m d = true
  m : m ≤ 400
theorem Ths.nil {m n k : Nat} (hm : m ≤ 400) : Ths m n k [] := ⟨Nat.zero_le _, (fun d h => by cases h), (fun d h => by cases h), hm⟩
theorem Ths.cons {m n n' k : Nat} {d : PyData} {ds : List PyData} (h : Th m n k d) (t : Ths m n' k ds) : Ths m (n + 2 + n') k (d :: ds) :=
  ⟨by have := h.w; have := t.w; simp only [wtAll]; omega, fun x hx => by
    rcases List.mem_cons.mp hx with rfl | hx
    · exact h.k
    · exact t.k x hx, fun x hx => by
    rcases List.mem_cons.mp hx with rfl | hx
    · exact h.g
    · exact t.g x hx, h.m⟩
theorem Ths.mono {m m' n n' k k' : Nat} {ds : List PyData} (h : Ths m n k ds) (hn : n ≤ n') (hk : k ≤ k') (hm : m ≤ m' := by omega) (h4 : m' ≤ 400 := by omega) : Ths m' n' k' ds := ⟨Nat.le_trans h.w hn, fun d hd => Nat.le_trans (h.k d hd) hk, fun d hd => good_mono hm d (h.g d hd), h4⟩
theorem Ths.append {m n n' k : Nat} {ds es : List PyData} (h : Ths m n k ds) (t : Ths m n' k es) : Ths m (n + n') k (ds ++ es) :=
  ⟨by rw [wtAll_append]; have := h.w; have := t.w; omega, fun x hx => (List.mem_append.mp hx).elim (h.k x) (t.k x), fun x hx => (List.mem_append.mp hx).elim (h.g x) (t.g x), h.m⟩
theorem Ths.sub {m n k : Nat} {ds es : List PyData} (h : Ths m n k ds) (s : List.Sublist es ds) : Ths m n k es := ⟨Nat.le_trans (wtAll_sub s) h.w, fun d hd => h.k d (s.mem hd), fun d hd => h.g d (s.mem hd), h.m⟩
theorem Ths.rev {m n k : Nat} {ds : List PyData} (h : Ths m n k ds) : Ths m n k ds.reverse := ⟨by rw [wtAll_reverse]; exact h.w, fun d hd => h.k d (List.mem_reverse.mp hd), fun d hd => h.g d (List.mem_reverse.mp hd), h.m⟩
theorem Ths.len {m n k : Nat} {ds : List PyData} (h : Ths m n k ds) : 2 * ds.length ≤ n := Nat.le_trans (wtAll_len ds) h.w
theorem Ths.mem {m n k : Nat} {ds : List PyData} {d : PyData} (h : Ths m n k ds) (hd : d ∈ ds) : Th m n k d := ⟨by have := wtAll_mem hd; have := h.w; omega, h.k d hd, h.g d hd, h.m⟩
theorem Ths.of {m k : Nat} {ds : List PyData} (hk : ∀ d ∈ ds, d.depth ≤ k) (hg : ∀ d ∈ ds, good m d = true) (hm : m ≤ 400) : Ths m (wtAll ds) k ds := ⟨Nat.le_refl _, hk, hg, hm⟩
theorem Ths.tup {m n k : Nat} {ds : List PyData} (h : Ths m n k ds) : Th m (n + 3) (k + 1) (.tuple ds) := ⟨by rw [wt]; have := h.w; omega, by rw [PyData.depth]; have := depth_all k h.k; omega, by rw [good]; exact goodAll_mem.mpr h.g, h.m⟩
theorem Ths.lst {m n k : Nat} {ds : List PyData} (h : Ths m n k ds) : Th m (n + 3) (k + 1) (.list ds) := ⟨by rw [wt]; have := h.w; omega, by rw [PyData.depth]; have := depth_all k h.k; omega, by rw [good]; exact goodAll_mem.mpr h.g, h.m⟩
theorem Th.ofTup {m n k : Nat} {ds : List PyData} (h : Th m n k (.tuple ds)) : 3 ≤ n ∧ 1 ≤ k ∧ Ths m (n - 3) (k - 1) ds := by
  have hw := h.w
  have hk := h.k
  have hg := h.g
  rw [wt] at hw
  rw [PyData.depth] at hk
  rw [good] at hg
  exact ⟨by omega, by omega, by omega, fun d hd => by have := depthAll_mem hd; omega, goodAll_mem.mp hg, h.m⟩
theorem Th.ofLst {m n k : Nat} {ds : List PyData} (h : Th m n k (.list ds)) : 3 ≤ n ∧ 1 ≤ k ∧ Ths m (n - 3) (k - 1) ds := by
  have hw := h.w
  have hk := h.k
  have hg := h.g
  rw [wt] at hw
  rw [PyData.depth] at hk
  rw [good] at hg
  exact ⟨by omega, by omega, by omega, fun d hd => by have := depthAll_mem hd; omega, goodAll_mem.mp hg, h.m⟩
theorem Th.int {m n : Nat} {i : Int} (h : i.natAbs < 10 ^ n) (hn : n ≤ m) (hm : m ≤ 400) (h0 : 0 < n := by decide) : Th m (n + 1) 0 (.int i) := by
  have f := Fd.int h h0 (Nat.le_trans hn hm)
  refine ⟨by rw [wt]; exact f.1.2.1, by rw [PyData.depth]; exact Nat.le_refl _, ?_, hm⟩
  rw [good]
  exact decide_eq_true (Nat.lt_of_lt_of_le h (Nat.pow_le_pow_right (by decide) hn))
theorem Th.str {m n : Nat} {x : Str} (h : (reprText x).length + x.length ≤ n) (hm : m ≤ 400) : Th m (n + 2) 0 (.str x) := ⟨by rw [wt, PyData.shown]; omega, by rw [PyData.depth]; exact Nat.le_refl _, by rw [good], hm⟩
theorem Th.bool {m : Nat} (b : Bool) (hm : m ≤ 400) : Th m 5 0 (.bool b) := ⟨by rw [wt]; exact Nat.le_refl _, by rw [PyData.depth]; exact Nat.le_refl _, by rw [good], hm⟩
theorem Th.none {m : Nat} (hm : m ≤ 400) : Th m 4 0 .none := ⟨by rw [wt]; exact Nat.le_refl _, by rw [PyData.depth]; exact Nat.le_refl _, by rw [good], hm⟩
theorem Th.tyName {m n k : Nat} {d : PyData} (h : Th m n k d) : ∃ U, tyName d = some U := by
  cases d with
  | dict kvs => have := h.g; simp [good] at this
  | _ => exact ⟨_, rfl⟩
/-- a check by computing -/
def thB (m n k : Nat) (d : PyData) : Bool := decide (wt d ≤ n) && decide (d.depth ≤ k) && good m d
theorem Th.ofB {m n k : Nat} {d : PyData} (h : thB m n k d = true) (hm : m ≤ 400) : Th m n k d := by
  simp only [thB, Bool.and_eq_true, decide_eq_true_eq] at h
  exact ⟨h.1.1, h.1.2, h.2, hm⟩
/-- a number's figures -/
theorem Th.figs {m n k : Nat} {i : Int} (h : Th m n k (.int i)) : i.natAbs < 10 ^ m := by have := h.g; rw [good] at this; exact of_decide_eq_true this
/-! ## isinstance, computed -/
theorem isi_i (i : Int) : gIsi "int" (.int i) = some (.bool true) := by
  show Option.map PyData.bool (kitB "int" "int") = _
  rw [show kitB "int" "int" = some true by decide +kernel]; rfl
theorem isi_b (i : Bool) : gIsi "int" (.bool i) = some (.bool true) := by
  show Option.map PyData.bool (kitB "bool" "int") = _
  rw [show kitB "bool" "int" = some true by decide +kernel]; rfl
theorem isi_s (i : Str) : gIsi "int" (.str i) = some (.bool false) := by
  show Option.map PyData.bool (kitB "str" "int") = _
  rw [show kitB "str" "int" = some false by decide +kernel]; rfl
theorem isi_n : gIsi "int" .none = some (.bool false) := by
  show Option.map PyData.bool (kitB "NoneType" "int") = _
  rw [show kitB "NoneType" "int" = some false by decide +kernel]; rfl
theorem isi_l (i : List PyData) : gIsi "int" (.list i) = some (.bool false) := by
  show Option.map PyData.bool (kitB "list" "int") = _
  rw [show kitB "list" "int" = some false by decide +kernel]; rfl
theorem isi_t (i : List PyData) : gIsi "int" (.tuple i) = some (.bool false) := by
  show Option.map PyData.bool (kitB "tuple" "int") = _
  rw [show kitB "tuple" "int" = some false by decide +kernel]; rfl
theorem isbool_i (i : Int) : gIsi "bool" (.int i) = some (.bool false) := by
  show Option.map PyData.bool (kitB "int" "bool") = _
  rw [show kitB "int" "bool" = some false by decide +kernel]; rfl
theorem isbool_b (i : Bool) : gIsi "bool" (.bool i) = some (.bool true) := by
  show Option.map PyData.bool (kitB "bool" "bool") = _
  rw [show kitB "bool" "bool" = some true by decide +kernel]; rfl
theorem isbool_s (i : Str) : gIsi "bool" (.str i) = some (.bool false) := by
  show Option.map PyData.bool (kitB "str" "bool") = _
  rw [show kitB "str" "bool" = some false by decide +kernel]; rfl
theorem isbool_n : gIsi "bool" (.none) = some (.bool false) := by
  show Option.map PyData.bool (kitB "NoneType" "bool") = _
  rw [show kitB "NoneType" "bool" = some false by decide +kernel]; rfl
theorem isbool_l (i : List PyData) : gIsi "bool" (.list i) = some (.bool false) := by
  show Option.map PyData.bool (kitB "list" "bool") = _
  rw [show kitB "list" "bool" = some false by decide +kernel]; rfl
theorem isbool_t (i : List PyData) : gIsi "bool" (.tuple i) = some (.bool false) := by
  show Option.map PyData.bool (kitB "tuple" "bool") = _
  rw [show kitB "tuple" "bool" = some false by decide +kernel]; rfl
theorem isstr_i (i : Int) : gIsi "str" (.int i) = some (.bool false) := by
  show Option.map PyData.bool (kitB "int" "str") = _
  rw [show kitB "int" "str" = some false by decide +kernel]; rfl
theorem isstr_b (i : Bool) : gIsi "str" (.bool i) = some (.bool false) := by
  show Option.map PyData.bool (kitB "bool" "str") = _
  rw [show kitB "bool" "str" = some false by decide +kernel]; rfl
theorem isstr_s (i : Str) : gIsi "str" (.str i) = some (.bool true) := by
  show Option.map PyData.bool (kitB "str" "str") = _
  rw [show kitB "str" "str" = some true by decide +kernel]; rfl
theorem isstr_n : gIsi "str" (.none) = some (.bool false) := by
  show Option.map PyData.bool (kitB "NoneType" "str") = _
  rw [show kitB "NoneType" "str" = some false by decide +kernel]; rfl
theorem isstr_l (i : List PyData) : gIsi "str" (.list i) = some (.bool false) := by
  show Option.map PyData.bool (kitB "list" "str") = _
  rw [show kitB "list" "str" = some false by decide +kernel]; rfl
theorem isstr_t (i : List PyData) : gIsi "str" (.tuple i) = some (.bool false) := by
  show Option.map PyData.bool (kitB "tuple" "str") = _
  rw [show kitB "tuple" "str" = some false by decide +kernel]; rfl
theorem islist_i (i : Int) : gIsi "list" (.int i) = some (.bool false) := by
  show Option.map PyData.bool (kitB "int" "list") = _
  rw [show kitB "int" "list" = some false by decide +kernel]; rfl
theorem islist_b (i : Bool) : gIsi "list" (.bool i) = some (.bool false) := by
  show Option.map PyData.bool (kitB "bool" "list") = _
  rw [show kitB "bool" "list" = some false by decide +kernel]; rfl
theorem islist_s (i : Str) : gIsi "list" (.str i) = some (.bool false) := by
  show Option.map PyData.bool (kitB "str" "list") = _
  rw [show kitB "str" "list" = some false by decide +kernel]; rfl
theorem islist_n : gIsi "list" (.none) = some (.bool false) := by
  show Option.map PyData.bool (kitB "NoneType" "list") = _
  rw [show kitB "NoneType" "list" = some false by decide +kernel]; rfl
theorem islist_l (i : List PyData) : gIsi "list" (.list i) = some (.bool true) := by
  show Option.map PyData.bool (kitB "list" "list") = _
  rw [show kitB "list" "list" = some true by decide +kernel]; rfl
theorem islist_t (i : List PyData) : gIsi "list" (.tuple i) = some (.bool false) := by
  show Option.map PyData.bool (kitB "tuple" "list") = _
  rw [show kitB "tuple" "list" = some false by decide +kernel]; rfl
theorem istuple_i (i : Int) : gIsi "tuple" (.int i) = some (.bool false) := by
  show Option.map PyData.bool (kitB "int" "tuple") = _
  rw [show kitB "int" "tuple" = some false by decide +kernel]; rfl
theorem istuple_b (i : Bool) : gIsi "tuple" (.bool i) = some (.bool false) := by
  show Option.map PyData.bool (kitB "bool" "tuple") = _
  rw [show kitB "bool" "tuple" = some false by decide +kernel]; rfl
theorem istuple_s (i : Str) : gIsi "tuple" (.str i) = some (.bool false) := by
  show Option.map PyData.bool (kitB "str" "tuple") = _
  rw [show kitB "str" "tuple" = some false by decide +kernel]; rfl
theorem istuple_n : gIsi "tuple" (.none) = some (.bool false) := by
  show Option.map PyData.bool (kitB "NoneType" "tuple") = _
  rw [show kitB "NoneType" "tuple" = some false by decide +kernel]; rfl
theorem istuple_l (i : List PyData) : gIsi "tuple" (.list i) = some (.bool false) := by
  show Option.map PyData.bool (kitB "list" "tuple") = _
  rw [show kitB "list" "tuple" = some false by decide +kernel]; rfl
theorem istuple_t (i : List PyData) : gIsi "tuple" (.tuple i) = some (.bool true) := by
  show Option.map PyData.bool (kitB "tuple" "tuple") = _
  rw [show kitB "tuple" "tuple" = some true by decide +kernel]; rfl
theorem gSub_int (a b : Int) : Eg.gSub (.int a) (.int b) = some (.int (a - b)) := rfl
theorem v_coOl {ρ : Rho} (i : Nat) (f : Fn) (xs : List PyData) (os : List OD) : coO (some (some (.ol xs))) i f (some os) ρ = coR i ρ (f (some (.ol xs) :: os.map some)) := rfl
end Eg
local macro_rules | `(tactic| simp?! only [$ls,*]) => `(tactic| simp -implicitDefEqProofs only [Eg.v_bind, Eg.v_go, Eg.v_ret, Eg.v_get, Eg.v_lift, Eg.v_opt, Eg.v_seq, Eg.v_sqn, Eg.v_sqr, Eg.v_sqb, Eg.v_sqc, Eg.v_set, Eg.v_sret, Eg.v_if, Eg.v_mif, Eg.v_next, Eg.v_expr, Eg.v_dat, Eg.v_slot, Eg.v_sd, Eg.v_so, Eg.v_m2, Eg.v_m2k, Eg.v_m1, Eg.v_m1k, Eg.v_mL, Eg.v_mLk, Eg.v_rl0, Eg.v_rl1, Eg.v_nil, Eg.v_cons, Eg.v_fix, Eg.v_fix0, Eg.v_fix1, Eg.v_fzs, Eg.v_fzo, Eg.v_ab, Eg.v_not, Eg.v_and, Eg.v_or, Eg.v_ai, Eg.v_fn, Eg.v_fin, Eg.v_fin2, Eg.v_kp0, Eg.v_kpt, Eg.v_kpf, Eg.v_slo, Eg.v_mslot, Eg.v_name, Eg.v_nms, Eg.v_nmo, Eg.v_take, Eg.v_tks, Eg.v_tko, Eg.v_has, Eg.v_hask, Eg.v_dget, Eg.v_dgk, Eg.v_dgo, Eg.v_put, Eg.v_putk, Eg.v_puto, Eg.v_app, Eg.v_apo, Eg.v_ol, Eg.v_olk, Eg.v_callO, Eg.v_coK, Eg.v_coO, Eg.v_coR, Eg.v_as0, Eg.v_asd, Eg.v_ass, Eg.v_asod, Eg.v_asoc, Eg.v_call, Eg.v_caO, Eg.v_caR, Eg.v_for, Eg.v_lpO, Eg.v_lpn, Eg.v_lpr, Eg.v_tn, Eg.v_sil, Eg.v_sit, Eg.v_par, Eg.v_un, List.map_cons, List.map_nil, List.getElem?_cons_zero, List.getElem?_cons_succ, List.set_cons_zero, List.set_cons_succ, List.replicate_succ, List.replicate_zero, List.cons_append, List.nil_append, Option.bind_eq_bind, Option.bind_some, Option.map_some, if_true, Bool.false_eq_true, if_false, Bool.not_true, Bool.not_false, Eg.v_chain, Eg.v_op2, Eg.v_txt, Eg.v_tt, Eg.v_tl, Eg.v_go0, Eg.v_go1, Eg.isT, Eg.isF, Eg.notT, Eg.notF, Eg.v_truB, Eg.v_truI, Eg.v_truL, Eg.v_truT, Eg.v_truN, Eg.v_andV, Eg.v_orV, Eg.v_notV, Eg.v_neg, Eg.tp0, Eg.tp1, Eg.tp2, Eg.tp3, Eg.tp4, Eg.tp5, Eg.tp6, Eg.tp7, Eg.ls0, Eg.ls1, Eg.ls2, Eg.ls3, Eg.ls4, Eg.ls5, Eg.ls6, Eg.ls7, Eg.tuL, Eg.tuT, decide_true, decide_false, Eg.v_sl, Eg.gLen_list, Eg.gLen_tup, Eg.gGt_int, Eg.gLt_int, Eg.gGe_int, Eg.gLe_int, Eg.gEq_int, Eg.gNe_int, Eg.aAdd_int, Eg.v_app2, Eg.gNe_strR, Eg.gEq_strR, List.isEmpty_nil, List.isEmpty_cons, Bool.true_and, Bool.false_and, Bool.and_true, Bool.and_false, eq_self, Option.getD_some, Eg.isN_n, Eg.isN_t, Eg.isN_l, Eg.isN_s, Eg.isN_i, Eg.isN_b, Eg.notN_n, Eg.notN_t, Eg.notN_l, Eg.notN_s, Eg.notN_i, Eg.notN_b, Eg.ix_t0, Eg.ix_t1, Eg.ix_t2, Eg.ix_t3, Eg.ix_t4, Eg.ix_t5, Eg.ix_t6, Eg.tyIs_int_int, Eg.tyNot_int_int, Eg.tyIs_int_bool, Eg.tyNot_int_bool, Eg.tyIs_int_str, Eg.tyNot_int_str, Eg.tyIs_int_list, Eg.tyNot_int_list, Eg.tyIs_int_tuple, Eg.tyNot_int_tuple, Eg.tyIs_int_NoneType, Eg.tyNot_int_NoneType, Eg.tyIs_bool_int, Eg.tyNot_bool_int, Eg.tyIs_bool_bool, Eg.tyNot_bool_bool, Eg.tyIs_bool_str, Eg.tyNot_bool_str, Eg.tyIs_bool_list, Eg.tyNot_bool_list, Eg.tyIs_bool_tuple, Eg.tyNot_bool_tuple, Eg.tyIs_bool_NoneType, Eg.tyNot_bool_NoneType, Eg.tyIs_str_int, Eg.tyNot_str_int, Eg.tyIs_str_bool, Eg.tyNot_str_bool, Eg.tyIs_str_str, Eg.tyNot_str_str, Eg.tyIs_str_list, Eg.tyNot_str_list, Eg.tyIs_str_tuple, Eg.tyNot_str_tuple, Eg.tyIs_str_NoneType, Eg.tyNot_str_NoneType, Eg.tyIs_list_int, Eg.tyNot_list_int, Eg.tyIs_list_bool, Eg.tyNot_list_bool, Eg.tyIs_list_str, Eg.tyNot_list_str, Eg.tyIs_list_list, Eg.tyNot_list_list, Eg.tyIs_list_tuple, Eg.tyNot_list_tuple, Eg.tyIs_list_NoneType, Eg.tyNot_list_NoneType, Eg.tyIs_tuple_int, Eg.tyNot_tuple_int, Eg.tyIs_tuple_bool, Eg.tyNot_tuple_bool, Eg.tyIs_tuple_str, Eg.tyNot_tuple_str, Eg.tyIs_tuple_list, Eg.tyNot_tuple_list, Eg.tyIs_tuple_tuple, Eg.tyNot_tuple_tuple, Eg.tyIs_tuple_NoneType, Eg.tyNot_tuple_NoneType, Eg.v_ext, Eg.v_putL, Eg.v_pick, Eg.v_pk0, Eg.v_pkl, Eg.v_pkr, List.getD_cons_zero, List.getD_cons_succ, Eg.v_coOl, Eg.gSub_int, Eg.isi_i, Eg.isi_b, Eg.isi_s, Eg.isi_n, Eg.isi_l, Eg.isi_t, Eg.isbool_i, Eg.isbool_b, Eg.isbool_s, Eg.isbool_n, Eg.isbool_l, Eg.isbool_t, Eg.isstr_i, Eg.isstr_b, Eg.isstr_s, Eg.isstr_n, Eg.isstr_l, Eg.isstr_t, Eg.islist_i, Eg.islist_b, Eg.islist_s, Eg.islist_n, Eg.islist_l, Eg.islist_t, Eg.istuple_i, Eg.istuple_b, Eg.istuple_s, Eg.istuple_n, Eg.istuple_l, Eg.istuple_t, $ls,*])

namespace HT
open PySem PySem.Spec PyProof.Rows
section
variable {prog : Program} {w : World} {A : Around} {E : Value → Shared → Prop} {s : Shared}
theorem eg_adjust (n : Nat) : Builtin.Slice.sliceAdjust none none (-1) (n : Int) = ((n : Int) - 1, -1) := by
  first
  | rfl
  | (unfold Builtin.Slice.sliceAdjust; simp)
theorem eg_places (n : Nat) : Builtin.Slice.slicePlaces ((n : Int) - 1) (-1) (-1) = n := by
  unfold Builtin.Slice.slicePlaces
  by_cases h : n = 0
  · subst h; decide
  · simp
    omega
theorem eg_sliceApplied_rev {sl : Addr} {vs : Value} {n : Nat} {Q : Int × Int × Nat → Shared → Prop} (hs : s.heap.IsSliceOf sl .none .none vs) (ps : IsPart vs (some (-1)))
    (h : Q ((n : Int) - 1, -1, n) s) : wpAny (model prog w) A (Builtin.Slice.sliceApplied (.ref sl) (pure (n : Int))) Q E s := by
  obtain ⟨os, hos, hcs, hds⟩ := id hs
  unfold Builtin.Slice.sliceApplied Builtin.Slice.sliceFields
  refine wpAny_bind (wpAny_bind (wpAny_field hos hds (x := .none) rfl (wpAny_bind (wpAny_field hos hds (x := .none) rfl (wpAny_bind (wpAny_field hos hds (x := vs) rfl (wpAny_pure ?_)))))))
  refine wpAny_bind (slicePart_ ps ?_)
  show wpAny _ _ (if ((-1 : Int) == 0) = true then _ else _) _ _ s
  rw [if_neg (by decide)]
  refine wpAny_bind (slicePart_ .none (wpAny_bind (slicePart_ .none (wpAny_bind (wpAny_pure ?_)))))
  show wpAny _ _ (match Builtin.Slice.sliceAdjust none none (-1) (n : Int) with | (lo, hi) => pure (lo, (-1 : Int), Builtin.Slice.slicePlaces lo hi (-1))) _ _ s
  rw [eg_adjust]
  show wpAny _ _ (pure ((n : Int) - 1, (-1 : Int), Builtin.Slice.slicePlaces ((n : Int) - 1) (-1) (-1))) _ _ s
  rw [eg_places]
  exact wpAny_pure h
theorem eg_filterMap {α β : Type} {f g : α → Option β} : ∀ {l : List α}, (∀ m ∈ l, f m = g m) → l.filterMap f = l.filterMap g
  | [], _ => rfl
  | a :: l, h => by
    rw [List.filterMap_cons, List.filterMap_cons, h a List.mem_cons_self, eg_filterMap fun m hm => h m (List.mem_cons_of_mem _ hm)]
theorem eg_pick_rev (xs : Array Value) : ((List.range xs.size).filterMap fun (m : Nat) => xs[(((xs.size : Nat) : Int) - 1 + (m : Int) * (-1)).toNat]?).toArray = xs.toList.reverse.toArray := by
  have e : (List.range xs.size).filterMap (fun (m : Nat) => xs[(((xs.size : Nat) : Int) - 1 + (m : Int) * (-1)).toNat]?) = ((List.range xs.size).map (fun k => xs.size - 1 - k)).filterMap (xs[·]?) := by
    rw [List.filterMap_map]
    refine eg_filterMap fun m hm => ?_
    have hm := List.mem_range.mp hm
    have : (((xs.size : Nat) : Int) - 1 + (m : Int) * (-1)).toNat = xs.size - 1 - m := by omega
    rw [this]
    rfl
  rw [e, PySem.W.krv_range, List.filterMap_reverse, PySem.W.krv_all]
theorem eg_getItem_tuple_rev {t sl : Addr} {items : Array Value} {vs : Value} {Q : Value → Shared → Prop} (ht : IsTup s.heap t items) (hs : s.heap.IsSliceOf sl .none .none vs) (ps : IsPart vs (some (-1)))
    (h : Q (.ref s.heap.objs.size) { s with heap := s.heap.push { cls := .type "tuple", data := .seq items.toList.reverse.toArray } })
    (hsz : items.size ≤ sizeLine) : wpAny (model prog w) A (getItem (.ref t) (.ref sl)) Q E s := by
  have htake : sizeOk (.seq items.toList.reverse.toArray) := by
    show items.toList.reverse.toArray.size ≤ sizeLine
    rw [List.size_toArray, List.length_reverse, Array.length_toList]
    exact hsz
  obtain ⟨os, hos, hcs, hds⟩ := id hs
  have hTs : s.TypeIs (.ref sl) "slice" := ⟨os, hos, hcs⟩
  unfold getItem
  try with_reducible refine wpAny_holding ?_
  first | refine wpAny_bind (wpAny_pure ?_) | skip
  refine wpAny_bind (wpAny_sequenceKey ht.typeIs (by decide) ?_)
  refine wpAny_bind (wpAny_callSpecial?_slot (name := Str.ofString "__getitem__") ht.typeIs PyProof.Rows.slot_tuple_getitem
    (wpAny_call_entry PyProof.Rows.slot_tuple_getitem ht.typeIs entry_tuple_getitem ?_ (args_tuple_getitem _ _)))
  show wpAny _ _ (Builtin.Tuple.tupleItemsOf (.ref t) >>= _) _ _ s
  refine wpAny_bind (tupleItemsOf_ ht ?_)
  refine wpAny_bind (wpAny_typeOf hTs ?_)
  rw [if_pos (by decide)]
  refine wpAny_bind (eg_sliceApplied_rev hs ps ?_)
  have hno : ¬ ((((items.size : Nat) : Int) - 1 == 0 && (-1 : Int) == 1 && items.size == items.size) = true) := by
    intro q
    rw [Bool.and_eq_true, Bool.and_eq_true] at q
    exact absurd (eq_of_beq q.1.2) (by decide)
  show wpAny _ _ (if (((items.size : Nat) : Int) - 1 == 0 && (-1 : Int) == 1 && items.size == items.size) = true then _ else _) _ _ s
  rw [if_neg hno, eg_pick_rev]
  first
    | exact wpAny_bind (m := Builtin.Tuple.tupleExact _) (wpAny_newObj_type (wpAny_pure ⟨_, rfl, wpAny_pure h⟩) htake)
    | exact wpAny_bind (m := Builtin.Tuple.tupleExact _) (wpAny_newObj_type (wpAny_bind (wpAny_pure (wpAny_pure ⟨_, rfl, wpAny_pure h⟩))) htake)
    | exact wpAny_bind (wpAny_bind (m := Builtin.Tuple.tupleExact _) (wpAny_newObj_type (wpAny_pure (wpAny_pure ⟨_, rfl, wpAny_pure h⟩)) htake))
    | exact wpAny_bind (wpAny_bind (m := Builtin.Tuple.tupleExact _) (wpAny_newObj_type (wpAny_pure ⟨_, rfl, wpAny_pure h⟩) htake))
end
end HT
namespace L2
open PySem PySem.Spec PyProof.Rows
section
variable {X : Cx}
/-! ## xs[::-1] -/
def tRevB (K : PySem.W.Frag) (te : TE) : TE := fun σ H Q => te σ H fun x H1 => ∃ a xs, x = .ref a ∧ ((SqL K H1 a xs ∧ ∀ p, H1 p = none → Q (.ref p) (upd H1 p (.lst xs.reverse))) ∨ (SqT K H1 a xs ∧ ∀ p, H1 p = none → Q (.ref p) (upd H1 p (.tup xs.reverse))))
theorem pe_revB {e : Expr} {te : TE} {k : Nat} {p1 p2 p3 pos : Pos} (he : PE X e te) : PE X (.Subscript e (.Slice none none (some (.UnaryOp .USub (.Constant (.int 1) k p1) p2)) p3) pos) (tRevB X.K te) := by
  refine ⟨fun pins s σ H Q I h => ?_⟩
  refine Subscript_ (thn (he.run pins s σ H _ I h) fun v s1 ⟨x, H1, I1, r1, q1⟩ => ?_)
  obtain ⟨a, xs, ex, hq⟩ := q1
  subst ex
  cases r1
  have hst : PO X (some (.UnaryOp .USub (.Constant (.int 1) k p1) p2)) (tPart (tUn (rU fun i => .int (-i)) (tC (.int 1)))) := po_some (pe_un un_neg pe_int)
  refine wpAny_Slice (thn (po_none.run pins s1 σ H1 (fun o H2 => o = none ∧ H2 = H1) I1 ⟨rfl, rfl⟩) fun vl s2 ⟨l, H2, I2, pl, el, e2⟩ => ?_)
  subst el e2
  refine thn (po_none.run pins s2 σ H2 (fun o H3 => o = none ∧ H3 = H2) I2 ⟨rfl, rfl⟩) fun vu s3 ⟨u, H3, I3, pu, eu, e3⟩ => ?_
  subst eu e3
  refine thn (hst.run pins s3 σ H3 (fun o H4 => o = some (-1) ∧ H4 = H3) I3 ⟨1, rfl, -1, rfl, rfl, rfl⟩) fun vs s4 ⟨o, H4, I4, ps, eo, e4⟩ => ?_
  subst eo e4
  have I5 : Inv X pins σ H4 { s4 with heap := s4.heap.push { cls := .type "slice", data := .fields #[vl, vu, vs] } } := I4.kept (t' := s4.toks) fun b ob q => Heap.get?_push_of_some _ q
  show wpAny (model X.prog X.w) X.A (subscriptTail e (.Slice none none (some (.UnaryOp .USub (.Constant (.int 1) k p1) p2)) p3) (.ref a) (.ref s4.heap.objs.size)) (EP X pins σ Q) X.xe { s4 with heap := s4.heap.push { cls := .type "slice", data := .fields #[vl, vu, vs] } }
  rcases hq with ⟨hx, q⟩ | ⟨hx, q⟩
  · obtain ⟨its, r, ht, hz⟩ := I5.list hx
    have hlen := r.length
    refine tail_any (ops := [.ref a, .ref s4.heap.objs.size]) ht.isList.typeIs (PySem.slot_list_getitem.lookup) ?_ (by with_unfolding_all rfl)
    refine wpAny_getItem_list_slice ht.isList (Heap.IsSliceOf.new _ vl vu vs) pl pu ps (by decide) ?_ (by rw [List.size_toArray]; omega)
    rw [PySem.W.krv_pick]
    refine ⟨.ref _, _, I5.laid (t' := s4.toks) (o := .lst xs.reverse) (fun b ob q => Heap.get?_push_of_some _ q) (Nat.le_refl _) ?_, rfl, q _ (I5.hok.fresh (Nat.le_refl _))⟩
    exact ⟨by rw [List.length_reverse]; exact hz, _, 0, r.reverse, Heap.get?_push_size _ rfl⟩
  · obtain ⟨its, r, ht, hz⟩ := I5.tuple hx
    have hlen := r.length
    cases pl
    cases pu
    refine tail_any (ops := [.ref a, .ref s4.heap.objs.size]) ht.typeIs (PyProof.Rows.slot_tuple_getitem.lookup) ?_ (by with_unfolding_all rfl)
    refine HT.eg_getItem_tuple_rev ht (Heap.IsSliceOf.new _ .none .none vs) ps ?_ (by rw [List.size_toArray]; omega)
    refine ⟨.ref _, _, I5.laid (t' := s4.toks) (o := .tup xs.reverse) (fun b ob q => Heap.get?_push_of_some _ q) (Nat.le_refl _) ?_, rfl, q _ (I5.hok.fresh (Nat.le_refl _))⟩
    exact ⟨by rw [List.length_reverse]; exact hz, _, r.reverse, IsTup.new _ _⟩
end
end L2
namespace Eg
open PySem L2 PySem.W PySem.SeqAt
section
variable {X : Cx} {C : Ct} {e a b c o tg iter : Expr} {es : List Expr} {pos p p1 p2 p3 apos cpos pos' : Pos} {P : List Nat} {σ σ1 : St} {ρ ρ1 : Rho} {F H F1 H1 : Hp}
def gRev2 : PyData → Option OD
  | .list ds => some (.ol ds.reverse)
  | .tuple ds => some (.sh (.tuple ds.reverse))
  | _ => none
theorem o_rev2 {k : Nat} {p1 p3 : Pos} {ma : M Arg} (ha : PE X a (tA C ma)) (hK : X.K = C.K := by rfl) : PE X (.Subscript a (.Slice none none (some (.UnaryOp .USub (.Constant (.int 1) k p1) p2)) p3) pos) (tO C (m1 gRev2 ma)) := by
  refine (pe_revB ha).imp fun σ H Q ⟨F, ρ, sr, p⟩ => ?_
  refine one sr stb_O p fun x a ρ1 F1 H1 s1 g1 r1 q1 => ?_
  obtain ⟨o, eo, q⟩ := lift_some q1
  cases ea : res1 ρ1 a with
  | none => rw [ea] at eo; cases eo
  | some d =>
    rw [ea] at eo
    have vw := rA.view (ρ0 := ρ) (H0 := H) s1 r1 ea
    rw [hK]
    cases d with
    | list ds =>
      cases eo
      obtain ⟨p, vs, rfl, h1, h2⟩ := vw
      exact ⟨p, vs, rfl, .inl ⟨SqL.of h1, fun p hp => Alloc.post s1 (.lst hp h2.rev) q⟩⟩
    | tuple ds =>
      cases eo
      have vw' : DV C.K F1 x (.tuple ds) := vw
      cases vw' with
      | tup h1 h2 => exact ⟨_, _, rfl, .inr ⟨s1.sub.sqT h1, fun p hp => Alloc.post s1 (.tup hp h2.rev) q⟩⟩
    | _ => cases eo
/-! ## t * k -/
def aMulT (x y : PyData) : Option OD := match x, y with
  | .tuple xs, .int k => if xs.length ≠ 0 ∧ 2 ≤ k ∧ k ≤ 1000 ∧ xs.length ≤ 1000 then some (.sh (.tuple (List.replicate k.toNat xs).flatten)) else none
  | x, y => aMulW x y
theorem ao_mulT : OpO X (binaryOp .Mult) aMulT := by
  intro pins s σ F H x y v u dx dy o Q I rx ry sub h1 h2 e q
  unfold aMulT at e
  split at e
  · split at e <;> cases e
    rename_i hz
    cases h2
    have h1' : DV X.K F x (.tuple _) := h1
    cases h1' with
    | tup g1 k1 =>
      refine op_repT pins s σ H _ _ v u Q I rx ry ⟨_, _, _, rfl, rfl, sub.sqT g1, fun z => ?_, hz.2.1, hz.2.2.1, by rw [k1.len]; exact hz.2.2.2, fun p hp => q _ _ _ (.tup hp (k1.rep _))⟩
      have := k1.len
      rw [z] at this
      exact hz.1 this.symm
  · exact ao_mulW pins s σ F H x y v u dx dy o Q I rx ry sub h1 h2 e q
end
theorem aMulT_int {i j : Int} {a b : Nat} (h1 : i.natAbs < 2 ^ a) (h2 : j.natAbs < 2 ^ b) (ha : 0 < a ∧ a ≤ 400000 := by decide) (hb : 0 < b ∧ b ≤ 400000 := by decide) : aMulT (.int i) (.int j) = some (.sh (.int (i * j))) := gMulW_int h1 h2 ha hb
theorem aMulT_rep (xs : List PyData) (k : Int) (h : -(2 ^ 63) ≤ k ∧ k < 2 ^ 63 ∧ xs.length * k.toNat ≤ sizeLine) : aMulT (.list xs) (.int k) = some (.ol (List.replicate k.toNat xs).flatten) := if_pos h
theorem rev_t (ds : List PyData) : gRev2 (.tuple ds) = some (.sh (.tuple ds.reverse)) := rfl
theorem rev_l (ds : List PyData) : gRev2 (.list ds) = some (.ol ds.reverse) := rfl
end Eg
namespace HT
open PySem PySem.Spec PyProof.Rows
section
variable {prog : Program} {w : World} {A : Around} {E : Value → Shared → Prop} {s : Shared}
theorem eh_adjust {n j : Nat} (h : j < n) : Builtin.Slice.sliceAdjust none (some (-((j : Int) + 1))) (-1) (n : Int) = ((n : Int) - 1, (n : Int) - 1 - j) := by
  unfold Builtin.Slice.sliceAdjust
  simp
  omega
theorem eh_places {n j : Nat} (h : j < n) : Builtin.Slice.slicePlaces ((n : Int) - 1) ((n : Int) - 1 - j) (-1) = j := by
  unfold Builtin.Slice.slicePlaces
  by_cases q : j = 0
  · subst q; simp
  · simp
    omega
theorem eh_applied {sl : Addr} {vu vs : Value} {n j : Nat} {Q : Int × Int × Nat → Shared → Prop} (hs : s.heap.IsSliceOf sl .none vu vs) (pu : IsPart vu (some (-((j : Int) + 1)))) (ps : IsPart vs (some (-1))) (hj : j < n)
    (h : Q ((n : Int) - 1, -1, j) s) : wpAny (model prog w) A (Builtin.Slice.sliceApplied (.ref sl) (pure (n : Int))) Q E s := by
  obtain ⟨os, hos, hcs, hds⟩ := id hs
  unfold Builtin.Slice.sliceApplied Builtin.Slice.sliceFields
  refine wpAny_bind (wpAny_bind (wpAny_field hos hds (x := .none) rfl (wpAny_bind (wpAny_field hos hds (x := vu) rfl (wpAny_bind (wpAny_field hos hds (x := vs) rfl (wpAny_pure ?_)))))))
  refine wpAny_bind (slicePart_ ps ?_)
  show wpAny _ _ (if ((-1 : Int) == 0) = true then _ else _) _ _ s
  rw [if_neg (by decide)]
  refine wpAny_bind (slicePart_ .none (wpAny_bind (slicePart_ pu (wpAny_bind (wpAny_pure ?_)))))
  show wpAny _ _ (match Builtin.Slice.sliceAdjust none (some (-((j : Int) + 1))) (-1) (n : Int) with | (lo, hi) => pure (lo, (-1 : Int), Builtin.Slice.slicePlaces lo hi (-1))) _ _ s
  rw [eh_adjust hj]
  show wpAny _ _ (pure ((n : Int) - 1, (-1 : Int), Builtin.Slice.slicePlaces ((n : Int) - 1) ((n : Int) - 1 - j) (-1))) _ _ s
  rw [eh_places hj]
  exact wpAny_pure h
theorem eh_pick {xs : Array Value} {j : Nat} (hj : j < xs.size) : ((List.range j).filterMap fun (m : Nat) => xs[(((xs.size : Nat) : Int) - 1 + (m : Int) * (-1)).toNat]?).toArray = (xs.toList.reverse.take j).toArray := by
  congr 1
  have e : (List.range j).filterMap (fun (m : Nat) => xs[(((xs.size : Nat) : Int) - 1 + (m : Int) * (-1)).toNat]?) = (List.range j).filterMap (fun m => xs.toList.reverse[m]?) := by
    refine eg_filterMap fun m hm => ?_
    have hm := List.mem_range.mp hm
    have : (((xs.size : Nat) : Int) - 1 + (m : Int) * (-1)).toNat = xs.size - 1 - m := by omega
    rw [this, List.getElem?_reverse (by rw [Array.length_toList]; omega), Array.length_toList, Array.getElem?_toList]
  rw [e]
  have key : ∀ (l : List Value) (j : Nat), j ≤ l.length → (List.range j).filterMap (fun m => l[m]?) = l.take j := by
    intro l j
    induction j with
    | zero => intro _; rfl
    | succ j ih =>
      intro h
      rw [List.range_succ, List.filterMap_append, ih (by omega), List.take_succ]
      have : l[j]? = some l[j] := by simp
      simp [this]
  exact key _ _ (by rw [List.length_reverse, Array.length_toList]; omega)
theorem eh_getItem {t sl : Addr} {items : Array Value} {vu vs : Value} {j : Nat} {Q : Value → Shared → Prop} (ht : IsTup s.heap t items) (hs : s.heap.IsSliceOf sl .none vu vs) (pu : IsPart vu (some (-((j : Int) + 1)))) (ps : IsPart vs (some (-1))) (hj : j < items.size)
    (h : Q (.ref s.heap.objs.size) { s with heap := s.heap.push { cls := .type "tuple", data := .seq (items.toList.reverse.take j).toArray } })
    (hsz : items.size ≤ sizeLine) : wpAny (model prog w) A (getItem (.ref t) (.ref sl)) Q E s := by
  have htake : sizeOk (.seq (items.toList.reverse.take j).toArray) := by
    show (items.toList.reverse.take j).toArray.size ≤ sizeLine
    rw [List.size_toArray, List.length_take, List.length_reverse, Array.length_toList]
    omega
  obtain ⟨os, hos, hcs, hds⟩ := id hs
  have hTs : s.TypeIs (.ref sl) "slice" := ⟨os, hos, hcs⟩
  unfold getItem
  try with_reducible refine wpAny_holding ?_
  first | refine wpAny_bind (wpAny_pure ?_) | skip
  refine wpAny_bind (wpAny_sequenceKey ht.typeIs (by decide) ?_)
  refine wpAny_bind (wpAny_callSpecial?_slot (name := Str.ofString "__getitem__") ht.typeIs PyProof.Rows.slot_tuple_getitem
    (wpAny_call_entry PyProof.Rows.slot_tuple_getitem ht.typeIs entry_tuple_getitem ?_ (args_tuple_getitem _ _)))
  show wpAny _ _ (Builtin.Tuple.tupleItemsOf (.ref t) >>= _) _ _ s
  refine wpAny_bind (tupleItemsOf_ ht ?_)
  refine wpAny_bind (wpAny_typeOf hTs ?_)
  rw [if_pos (by decide)]
  refine wpAny_bind (eh_applied hs pu ps hj ?_)
  have hno : ¬ ((((items.size : Nat) : Int) - 1 == 0 && (-1 : Int) == 1 && j == items.size) = true) := by
    intro q
    rw [Bool.and_eq_true, Bool.and_eq_true] at q
    exact absurd (eq_of_beq q.1.2) (by decide)
  show wpAny _ _ (if (((items.size : Nat) : Int) - 1 == 0 && (-1 : Int) == 1 && j == items.size) = true then _ else _) _ _ s
  rw [if_neg hno, eh_pick hj]
  first
    | exact wpAny_bind (m := Builtin.Tuple.tupleExact _) (wpAny_newObj_type (wpAny_pure ⟨_, rfl, wpAny_pure h⟩) htake)
    | exact wpAny_bind (m := Builtin.Tuple.tupleExact _) (wpAny_newObj_type (wpAny_bind (wpAny_pure (wpAny_pure ⟨_, rfl, wpAny_pure h⟩))) htake)
    | exact wpAny_bind (wpAny_bind (m := Builtin.Tuple.tupleExact _) (wpAny_newObj_type (wpAny_pure (wpAny_pure ⟨_, rfl, wpAny_pure h⟩)) htake))
    | exact wpAny_bind (wpAny_bind (m := Builtin.Tuple.tupleExact _) (wpAny_newObj_type (wpAny_pure ⟨_, rfl, wpAny_pure h⟩) htake))
end
end HT
namespace L2
open PySem PySem.Spec PyProof.Rows
section
variable {X : Cx}
/-- t[:-(j+1):-1] of a tuple -/
def tRevTo (K : PySem.W.Frag) (j : Nat) (te : TE) : TE := fun σ H Q => te σ H fun x H1 => ∃ a xs, x = .ref a ∧ SqT K H1 a xs ∧ j < xs.length ∧ ∀ p, H1 p = none → Q (.ref p) (upd H1 p (.tup (xs.reverse.take j)))
theorem pe_revTo {e : Expr} {te : TE} {k k2 : Nat} {m : Int} {j : Nat} {p1 p2 p3 q1 q2 pos : Pos} (hm : m = (j : Int) + 1) (he : PE X e te) : PE X (.Subscript e (.Slice none (some (.UnaryOp .USub (.Constant (.int m) k2 q1) q2)) (some (.UnaryOp .USub (.Constant (.int 1) k p1) p2)) p3) pos) (tRevTo X.K j te) := by
  refine ⟨fun pins s σ H Q I h => ?_⟩
  refine Subscript_ (thn (he.run pins s σ H _ I h) fun v s1 ⟨x, H1, I1, r1, q1⟩ => ?_)
  obtain ⟨a, xs, ex, hx, hj, q⟩ := q1
  subst ex
  cases r1
  have step : PO X (some (.UnaryOp .USub (.Constant (.int 1) k p1) p2)) (tPart (tUn (rU fun i => .int (-i)) (tC (.int 1)))) := po_some (pe_un un_neg pe_int)
  have upto : PO X (some (.UnaryOp .USub (.Constant (.int m) k2 q1) q2)) (tPart (tUn (rU fun i => .int (-i)) (tC (.int m)))) := po_some (pe_un un_neg pe_int)
  refine wpAny_Slice (thn (po_none.run pins s1 σ H1 (fun o H2 => o = none ∧ H2 = H1) I1 ⟨rfl, rfl⟩) fun vl s2 ⟨l, H2, I2, pl, el, e2⟩ => ?_)
  subst el e2
  refine thn (upto.run pins s2 σ H2 (fun o H3 => o = some (-m) ∧ H3 = H2) I2 ⟨m, rfl, -m, rfl, rfl, rfl⟩) fun vu s3 ⟨u, H3, I3, pu, eu, e3⟩ => ?_
  subst eu e3
  refine thn (step.run pins s3 σ H3 (fun o H4 => o = some (-1) ∧ H4 = H3) I3 ⟨1, rfl, -1, rfl, rfl, rfl⟩) fun vs s4 ⟨o, H4, I4, ps, eo, e4⟩ => ?_
  subst eo e4
  have I5 : Inv X pins σ H4 { s4 with heap := s4.heap.push { cls := .type "slice", data := .fields #[vl, vu, vs] } } := I4.kept (t' := s4.toks) fun b ob q => Heap.get?_push_of_some _ q
  obtain ⟨its, r, ht, hz⟩ := I5.tuple hx
  have hlen := r.length
  cases pl
  rw [hm] at pu
  show wpAny (model X.prog X.w) X.A (subscriptTail e (.Slice none (some (.UnaryOp .USub (.Constant (.int m) k2 q1) q2)) (some (.UnaryOp .USub (.Constant (.int 1) k p1) p2)) p3) (.ref a) (.ref s4.heap.objs.size)) (EP X pins σ Q) X.xe { s4 with heap := s4.heap.push { cls := .type "slice", data := .fields #[.none, vu, vs] } }
  refine tail_any (ops := [.ref a, .ref s4.heap.objs.size]) ht.typeIs (PyProof.Rows.slot_tuple_getitem.lookup) ?_ (by with_unfolding_all rfl)
  refine HT.eh_getItem ht (Heap.IsSliceOf.new _ .none vu vs) pu ps (by rw [List.size_toArray]; omega) ?_ (by rw [List.size_toArray]; omega)
  refine ⟨.ref _, _, I5.laid (t' := s4.toks) (o := .tup (xs.reverse.take j)) (fun b ob q => Heap.get?_push_of_some _ q) (Nat.le_refl _) ?_, rfl, q _ (I5.hok.fresh (Nat.le_refl _))⟩
  exact ⟨by rw [List.length_take, List.length_reverse]; omega, _, r.reverse.take j, IsTup.new _ _⟩
theorem op_add_bi : OpR X (binaryOp .Add) (fun x y H Q => ∃ k i, x = .bl k ∧ y = .int i ∧ Q (.int ((if k = true then 1 else 0) + i)) H) := by
  intro pins s σ H x y v u Q I rx ry h
  obtain ⟨k, i, rfl, rfl, q⟩ := h
  cases rx
  obtain ⟨t, rfl⟩ := ry
  exact PySem.IntBool.add_bool_int ⟨.int ((if k = true then 1 else 0) + i), H, I.tok _, ⟨_, rfl⟩, q⟩
theorem call_str_bl : CallR X (.type "str") (fun xs H Q => ∃ k, xs = [.bl k] ∧ Q (.str (if k = true then "True" else "False")) H) := by
  intro pins s σ H xs us Q I r h
  obtain ⟨k, rfl, q⟩ := h
  obtain ⟨u, rfl, ru⟩ := vals1 r
  cases ru
  refine PySem.P.str_of_bool ⟨.str (if k = true then "True" else "False"), H, I.tok _, ⟨s.toks, ?_⟩, q⟩
  cases k <;> rfl
end
end L2
namespace Eg
open PySem L2 PySem.W PySem.SeqAt
section
variable {X : Cx} {C : Ct} {e a b c o tg iter : Expr} {es : List Expr} {pos p p1 p2 p3 apos cpos pos' : Pos} {P : List Nat} {σ σ1 : St} {ρ ρ1 : Rho} {F H F1 H1 : Hp}
def gRevTo (j : Nat) : PyData → Option OD
  | .tuple ds => if j < ds.length then some (.sh (.tuple (ds.reverse.take j))) else none
  | _ => none
theorem o_revTo {k k2 : Nat} {m : Int} {j : Nat} {q1 q2 : Pos} {ma : M Arg} (hm : m = (j : Int) + 1) (ha : PE X a (tA C ma)) (hK : X.K = C.K := by rfl) : PE X (.Subscript a (.Slice none (some (.UnaryOp .USub (.Constant (.int m) k2 q1) q2)) (some (.UnaryOp .USub (.Constant (.int 1) k p1) p2)) p3) pos) (tO C (m1 (gRevTo j) ma)) := by
  refine (pe_revTo hm ha).imp fun σ H Q ⟨F, ρ, sr, p⟩ => ?_
  refine one sr stb_O p fun x a ρ1 F1 H1 s1 g1 r1 q1 => ?_
  obtain ⟨o, eo, q⟩ := lift_some q1
  cases ea : res1 ρ1 a with
  | none => rw [ea] at eo; cases eo
  | some d =>
    rw [ea] at eo
    have vw := rA.view (ρ0 := ρ) (H0 := H) s1 r1 ea
    rw [hK]
    cases d with
    | tuple ds =>
      simp only [gRevTo, Option.bind_eq_bind, Option.bind_some] at eo
      split at eo <;> cases eo
      rename_i hz
      have vw' : DV C.K F1 x (.tuple ds) := vw
      cases vw' with
      | tup h1 h2 => exact ⟨_, _, rfl, s1.sub.sqT h1, by rw [h2.len]; exact hz, fun p hp => Alloc.post s1 (.tup hp (h2.rev.take j)) q⟩
    | _ => cases eo
/-! ## a truth and a number -/
def aAddB (x y : PyData) : Option OD := match x, y with
  | .bool k, .int i => some (.sh (.int ((if k = true then 1 else 0) + i)))
  | x, y => aAdd x y
theorem ao_addB : OpO X (binaryOp .Add) aAddB := by
  intro pins s σ F H x y v u dx dy o Q I rx ry sub h1 h2 e q
  unfold aAddB at e
  split at e
  · cases e
    cases h1; cases h2
    exact op_add_bi pins s σ H _ _ v u Q I rx ry ⟨_, _, rfl, rfl, q _ _ _ (.asis (.int _))⟩
  · exact ao_add pins s σ F H x y v u dx dy o Q I rx ry sub h1 h2 e q
/-! ## str(x) -/
def gStr : List PyData → Option OD
  | [.int i] => if i.natAbs.log2 < 1920 then some (.sh (.str (toString i))) else none
  | [.bool k] => some (.sh (.str (if k = true then "True" else "False")))
  | _ => none
theorem co_str : CallO X (.type "str") gStr := by
  intro pins s σ F H xs us ds o Q I r sub vw e q
  match ds, vw, e with
  | [.int i], .cons h .nil, e =>
    simp only [gStr] at e
    split at e <;> cases e
    rename_i hz
    cases h
    exact call_str_int pins s σ H _ us Q I r ⟨i, rfl, hz, q _ _ _ (.asis (.str _))⟩
  | [.bool k], .cons h .nil, e =>
    cases e
    cases h
    exact call_str_bl pins s σ H _ us Q I r ⟨k, rfl, q _ _ _ (.asis (.str _))⟩
theorem b_str : bootBuiltins "str" = some (.type "str") := by decide +kernel
/-! ## s.upper() -/
def gUpper : PyData → Option PyData
  | .str x => if x.length ≤ 5592405 then some (.str (Txt.upper x)) else none
  | _ => none
theorem d_upper {ma : M Arg} (ha : PE X a (tA C ma))
    (h : PE X (.Call (.Attribute a "upper" apos) [] [] cpos) (tM0 (fun x xs H Q => ∃ a, x = .str a ∧ xs = [] ∧ a.length ≤ 5592405 ∧ Q (.str (Txt.upper a)) H) (tA C ma))) : PE X (.Call (.Attribute a "upper" apos) [] [] cpos) (tD C (m1 gUpper ma)) :=
  h.imp fun σ H Q ⟨F, ρ, sr, q⟩ => one1 sr q fun x dx d ρ2 F2 H2 s2 r e q => by
    cases dx with
    | str z =>
      simp only [gUpper] at e
      split at e <;> cases e
      rename_i hz
      cases r
      exact ⟨⟨z, rfl⟩, z, rfl, rfl, hz, q F2 H2 _ Grow.refl s2 (.str _)⟩
    | _ => cases e
end
end Eg
namespace Lw
open PySem L2 PySem.W PySem.SeqAt Eg
-- heard_together of k08
def m_heard_together_e1 : M PyData := (mL gMax (mCons (mSlot 2) (mCons (mSlot 3) (mNil)))).bind fz
def m_heard_together : M Out := sRet (mL gTuple (mCons (((mComp ((mName 0).bind fun x => (mName 1).bind fun y => M.lift (zipD x y)) (tTup [tName 2, tName 3]) (M.ret true) (m_heard_together_e1) [2, 3]).bind fz).bind fun d => M.ret (.dat d)) (mNil)))
def fn_heard_together : Fn := fnM 2 [false, false] m_heard_together
-- is_count of k08
def m_is_count : M Out := sRet ((mAndV (m1 (gTyIs "int") (mSlot 0)) (m2 gGe (mSlot 0) ((M.ret (.int 0)).bind fun d => M.ret (.dat d)))).bind fun d => M.ret (.sh d))
def fn_is_count : Fn := fnM 0 [false] m_is_count
-- is_tuple_of of k08
def m_is_tuple_of : M Out := sRet ((mAndV (m1 (gTyIs "tuple") (mSlot 0)) (m2 gEq (((mL gLen (mCons (mSlot 0) (mNil))).bind fz).bind fun d => M.ret (.dat d)) (mSlot 1))).bind fun d => M.ret (.sh d))
def fn_is_tuple_of : Fn := fnM 0 [false, false] m_is_tuple_of
-- rises of k08
def m_rises_e1 : M PyData := m2 gLt (mSlot 1) (mSlot 2)
def m_rises : M Out := sRet (mL gAll (mCons (((mComp ((mName 0).bind fun x => ((mSl (mSlot 0) ((M.ret (.int 1)).bind fun d => (asInt d).bind fun i => M.ret (some i)) (M.ret none)).bind fz).bind fun y => M.lift (zipD x y)) (tTup [tName 1, tName 2]) (M.ret true) (m_rises_e1) [1, 2]).bind fz).bind fun d => M.ret (.dat d)) (mNil)))
def fn_rises : Fn := fnM 2 [false] m_rises
-- is_word of k08
def m_is_word_e1 : M PyData := mChain gLe gLe (M.ret (.str "a")) (mName 1) (M.ret (.str "z"))
def m_is_word : M Out := sSeq (sIf ((m1 (gTyNot "str") (mSlot 0)).bind asBool) (sRet ((M.ret (.bool false)).bind fun d => M.ret (.sh d))) (sNext)) (sRet ((mAndV (mChain gLe gLe (M.ret (.int 1)) ((mL gLen (mCons (mSlot 0) (mNil))).bind fz) (M.ret (.int 8))) ((mL gAll (mCons (((mComp ((mName 0).bind txtItems) (tName 1) (M.ret true) (m_is_word_e1) [1]).bind fz).bind fun d => M.ret (.dat d)) (mNil))).bind fz)).bind fun d => M.ret (.sh d)))
def fn_is_word : Fn := fnM 1 [false] m_is_word
-- is_told_rise of k08
def m_is_told_rise : M Out := sRet ((mAndV ((mCall fn_is_tuple_of (mCons ((mName 0).bind fun d => M.ret (.dat d)) (mCons ((M.ret (.int 3)).bind fun d => M.ret (.dat d)) (mNil)))).bind fz) (mAndV ((mCall fn_is_word (mCons ((m2 gIx (mSlot 0) ((M.ret (.int 0)).bind fun d => M.ret (.dat d))).bind fun d => M.ret (.dat d)) (mNil))).bind fz) (mAndV ((mCall fn_is_count (mCons ((m2 gIx (mSlot 0) ((M.ret (.int 1)).bind fun d => M.ret (.dat d))).bind fun d => M.ret (.dat d)) (mNil))).bind fz) ((mCall fn_is_count (mCons ((m2 gIx (mSlot 0) ((M.ret (.int 2)).bind fun d => M.ret (.dat d))).bind fun d => M.ret (.dat d)) (mNil))).bind fz)))).bind fun d => M.ret (.sh d))
def fn_is_told_rise : Fn := fnM 0 [false] m_is_told_rise
-- is_heard of k08
def m_is_heard_e1 : M PyData := (mCall fn_is_told_rise (mCons ((mName 1).bind fun d => M.ret (.dat d)) (mNil))).bind fz
def m_is_heard_e2 : M PyData := m2 gIx (mSlot 1) ((M.ret (.int 0)).bind fun d => M.ret (.dat d))
def m_is_heard : M Out := sSeq (sIf (mOr ((m1 (gTyNot "tuple") (mSlot 0)).bind asBool) (mNot ((mName 0).bind truD))) (sRet ((M.ret (.bool false)).bind fun d => M.ret (.sh d))) (sNext)) (sRet ((mAndV ((mL gAll (mCons (((mComp ((mName 0).bind seqItems) (tName 1) (M.ret true) (m_is_heard_e1) [1]).bind fz).bind fun d => M.ret (.dat d)) (mNil))).bind fz) ((mCall fn_rises (mCons (((mComp ((mName 0).bind seqItems) (tName 1) (M.ret true) (m_is_heard_e2) [1]).bind fz).bind fun d => M.ret (.dat d)) (mNil))).bind fz)).bind fun d => M.ret (.sh d)))
def fn_is_heard : Fn := fnM 1 [false] m_is_heard
-- _law_news of k08
def m_news_b1 : M Out := sSeq (sSet 4 (mCallO fn_take (mCons (mSlot 0) (mCons ((M.ret (.int 3)).bind fun d => M.ret (.dat d)) (mNil))))) (sExpr (mOl 2 (mAppend 2 (mFix tupG (mCons ((mName 3).bind fun d => M.ret (.dat d)) (mCons ((mName 4).bind fun d => M.ret (.dat d)) (mCons (((m2 aMul (((mCallO fn_take (mCons (mSlot 0) (mCons ((M.ret (.int 40)).bind fun d => M.ret (.dat d)) (mNil)))).bind fz).bind fun d => M.ret (.dat d)) (((mL gInt (mCons ((m2 gGt (mSlot 4) ((M.ret (.int 0)).bind fun d => M.ret (.dat d))).bind fun d => M.ret (.dat d)) (mNil))).bind fz).bind fun d => M.ret (.dat d))).bind fz).bind fun d => M.ret (.dat d)) (mNil))))))))
def m_news : M Out := sSeq (sSet 2 (mFix lstG (mNil))) (sSeq (sFor ((mName 1).bind seqItems) (tName 3) (m_news_b1)) (sRet (mL gTuple (mCons (mSlot 2) (mNil)))))
def fn_news : Fn := fnM 3 [true, false] m_news
-- _law_greater of k08
def m_greater_e1 : M PyData := (mL gMax (mCons (mSlot 2) (mCons (mSlot 3) (mNil)))).bind fz
def m_greater : M Out := sRet (mL gTuple (mCons (((mComp ((mName 0).bind fun x => (mName 1).bind fun y => M.lift (zipD x y)) (tTup [tName 2, tName 3]) (M.ret true) (m_greater_e1) [2, 3]).bind fz).bind fun d => M.ret (.dat d)) (mNil)))
def fn_greater : Fn := fnM 2 [false, false] m_greater
-- law of k08
def m_law_k08_e1 : M PyData := (mCallO fn_news (mCons (mSlot 1) (mCons ((mName 3).bind fun d => M.ret (.dat d)) (mNil)))).bind fz
def m_law_k08_e2 : M PyData := mFix tupG (mCons ((mName 14).bind fun d => M.ret (.dat d)) (mCons ((mName 15).bind fun d => M.ret (.dat d)) (mCons (((m2 aAdd (mSlot 16) ((M.ret (.int 1)).bind fun d => M.ret (.dat d))).bind fz).bind fun d => M.ret (.dat d)) (mNil))))
def m_law_k08_e3 : M PyData := mFix tupG (mCons ((mName 14).bind fun d => M.ret (.dat d)) (mCons (((m2 aAdd ((m2 gPow ((M.ret (.int 10)).bind fun d => M.ret (.dat d)) ((M.ret (.int 9)).bind fun d => M.ret (.dat d))).bind fun d => M.ret (.dat d)) (mSlot 13)).bind fz).bind fun d => M.ret (.dat d)) (mCons ((m2 gSub ((M.ret (.int 9999)).bind fun d => M.ret (.dat d)) (mSlot 13)).bind fun d => M.ret (.dat d)) (mNil))))
def m_law_k08_b4 : M Out := sSeq (sSet 12 (mCall fn_heard_together (mCons ((mName 10).bind fun d => M.ret (.dat d)) (mCons ((mName 11).bind fun d => M.ret (.dat d)) (mNil))))) (sSeq (sIf (mOr ((m2 gNe (((mL gRepr (mCons (mSlot 12) (mNil))).bind fz).bind fun d => M.ret (.dat d)) (((mL gRepr (mCons (((mCall fn_greater (mCons ((mName 10).bind fun d => M.ret (.dat d)) (mCons ((mName 11).bind fun d => M.ret (.dat d)) (mNil)))).bind fz).bind fun d => M.ret (.dat d)) (mNil))).bind fz).bind fun d => M.ret (.dat d))).bind asBool) ((m1 (gNotB true) (((mCall fn_is_heard (mCons ((mName 12).bind fun d => M.ret (.dat d)) (mNil))).bind fz).bind fun d => M.ret (.dat d))).bind asBool)) (sRet ((M.ret (.bool false)).bind fun d => M.ret (.sh d))) (sNext)) (sSeq (sIf ((m2 gNe (((mFix lstG (mCons (((mCall fn_heard_together (mCons ((mName 11).bind fun d => M.ret (.dat d)) (mCons ((mName 10).bind fun d => M.ret (.dat d)) (mNil)))).bind fz).bind fun d => M.ret (.dat d)) (mCons (((mCall fn_heard_together (mCons ((mName 12).bind fun d => M.ret (.dat d)) (mCons ((mName 10).bind fun d => M.ret (.dat d)) (mNil)))).bind fz).bind fun d => M.ret (.dat d)) (mCons (((mCall fn_heard_together (mCons ((mName 12).bind fun d => M.ret (.dat d)) (mCons ((mName 12).bind fun d => M.ret (.dat d)) (mNil)))).bind fz).bind fun d => M.ret (.dat d)) (mNil))))).bind fz).bind fun d => M.ret (.dat d)) (((m2 aMul (((mFix lstG (mCons ((mName 12).bind fun d => M.ret (.dat d)) (mNil))).bind fz).bind fun d => M.ret (.dat d)) ((M.ret (.int 3)).bind fun d => M.ret (.dat d))).bind fz).bind fun d => M.ret (.dat d))).bind asBool) (sRet ((M.ret (.bool false)).bind fun d => M.ret (.sh d))) (sNext)) (sIf ((m2 gNe (((mCall fn_heard_together (mCons ((mName 12).bind fun d => M.ret (.dat d)) (mCons ((mName 6).bind fun d => M.ret (.dat d)) (mNil)))).bind fz).bind fun d => M.ret (.dat d)) (((mCall fn_heard_together (mCons ((mName 10).bind fun d => M.ret (.dat d)) (mCons (((mCall fn_heard_together (mCons ((mName 6).bind fun d => M.ret (.dat d)) (mCons ((mName 11).bind fun d => M.ret (.dat d)) (mNil)))).bind fz).bind fun d => M.ret (.dat d)) (mNil)))).bind fz).bind fun d => M.ret (.dat d))).bind asBool) (sRet ((M.ret (.bool false)).bind fun d => M.ret (.sh d))) (sNext))))
def m_law_k08_b5 : M Out := sFor ((mFix tupG (mCons ((mName 4).bind fun d => M.ret (.dat d)) (mCons ((mName 5).bind fun d => M.ret (.dat d)) (mCons ((mName 6).bind fun d => M.ret (.dat d)) (mCons ((mName 7).bind fun d => M.ret (.dat d)) (mCons ((mName 8).bind fun d => M.ret (.dat d)) (mNil))))))).bind seqItems) (tName 11) (m_law_k08_b4)
def m_law_k08_b6 : M Out := sSeq (sSet 3 (mCallO fn_towns (mCons (mSlot 1) (mCons (((m2 aAdd ((M.ret (.int 1)).bind fun d => M.ret (.dat d)) ((m2 gMod (mSlot 2) ((M.ret (.int 2)).bind fun d => M.ret (.dat d))).bind fun d => M.ret (.dat d))).bind fz).bind fun d => M.ret (.dat d)) (mNil))))) (sSeq (sUn ((mComp (mL rng1 (mCons ((M.ret (.int 3)).bind fun d => M.ret (.dat d)) (mNil))) (tName 13) (M.ret true) (m_law_k08_e1) [13]).bind fz) (tLst [tName 4, tName 5, tName 6])) (sSeq (sSet 7 (mL gTuple (mCons (((mComp ((mName 4).bind seqItems) (tTup [tName 14, tName 15, tName 16]) (M.ret true) (m_law_k08_e2) [14, 15, 16]).bind fz).bind fun d => M.ret (.dat d)) (mNil)))) (sSeq (sSet 8 (mL gTuple (mCons (((mComp ((mName 3).bind fun d => M.lift (enumD [d])) (tTup [tName 13, tName 14]) (M.ret true) (m_law_k08_e3) [13, 14]).bind fz).bind fun d => M.ret (.dat d)) (mNil)))) (sSeq (sSet 9 (mL gRepr (mCons ((mFix tupG (mCons ((mName 4).bind fun d => M.ret (.dat d)) (mCons ((mName 5).bind fun d => M.ret (.dat d)) (mCons ((mName 6).bind fun d => M.ret (.dat d)) (mNil))))).bind fun d => M.ret (.dat d)) (mNil)))) (sSeq (sFor ((mFix tupG (mCons ((mName 4).bind fun d => M.ret (.dat d)) (mCons ((mName 5).bind fun d => M.ret (.dat d)) (mCons ((mName 6).bind fun d => M.ret (.dat d)) (mCons ((mName 7).bind fun d => M.ret (.dat d)) (mCons ((mName 8).bind fun d => M.ret (.dat d)) (mNil))))))).bind seqItems) (tName 10) (m_law_k08_b5)) (sIf ((m2 gNe (((mL gRepr (mCons ((mFix tupG (mCons ((mName 4).bind fun d => M.ret (.dat d)) (mCons ((mName 5).bind fun d => M.ret (.dat d)) (mCons ((mName 6).bind fun d => M.ret (.dat d)) (mNil))))).bind fun d => M.ret (.dat d)) (mNil))).bind fz).bind fun d => M.ret (.dat d)) (mSlot 9)).bind asBool) (sRet ((M.ret (.bool false)).bind fun d => M.ret (.sh d))) (sNext)))))))
def m_law_k08 : M Out := sSeq (sSet 1 (mCall fn_tap (mCons (mSlot 0) (mNil)))) (sSeq (sFor (mL rng1 (mCons ((M.ret (.int 5)).bind fun d => M.ret (.dat d)) (mNil))) (tName 2) (m_law_k08_b6)) (sRet ((M.ret (.bool true)).bind fun d => M.ret (.sh d))))
def fn_law_k08 : Fn := fnM 16 [false] m_law_k08
end Lw
namespace Lw
open PySem L2 PySem.W PySem.SeqAt Eg
-- is_hand of k01
def m_is_hand : M Out := sRet ((mAndV ((mCall fn_is_tuple_of (mCons ((mName 0).bind fun d => M.ret (.dat d)) (mCons ((M.ret (.int 2)).bind fun d => M.ret (.dat d)) (mNil)))).bind fz) (mAndV ((mCall fn_is_word (mCons ((m2 gIx (mSlot 0) ((M.ret (.int 0)).bind fun d => M.ret (.dat d))).bind fun d => M.ret (.dat d)) (mNil))).bind fz) ((mCall fn_is_word (mCons ((m2 gIx (mSlot 0) ((M.ret (.int 1)).bind fun d => M.ret (.dat d))).bind fun d => M.ret (.dat d)) (mNil))).bind fz))).bind fun d => M.ret (.sh d))
def fn_is_hand : Fn := fnM 0 [false] m_is_hand
-- is_pair of k01
def m_is_pair : M Out := sRet ((mAndV ((mCall fn_is_tuple_of (mCons ((mName 0).bind fun d => M.ret (.dat d)) (mCons ((M.ret (.int 2)).bind fun d => M.ret (.dat d)) (mNil)))).bind fz) (mAndV ((mCall fn_is_hand (mCons ((m2 gIx (mSlot 0) ((M.ret (.int 0)).bind fun d => M.ret (.dat d))).bind fun d => M.ret (.dat d)) (mNil))).bind fz) (mAndV ((mCall fn_is_hand (mCons ((m2 gIx (mSlot 0) ((M.ret (.int 1)).bind fun d => M.ret (.dat d))).bind fun d => M.ret (.dat d)) (mNil))).bind fz) (m2 gLt ((m2 gIx (mSlot 0) ((M.ret (.int 0)).bind fun d => M.ret (.dat d))).bind fun d => M.ret (.dat d)) ((m2 gIx (mSlot 0) ((M.ret (.int 1)).bind fun d => M.ret (.dat d))).bind fun d => M.ret (.dat d)))))).bind fun d => M.ret (.sh d))
def fn_is_pair : Fn := fnM 0 [false] m_is_pair
-- is_stamp of k01
def m_is_stamp : M Out := sRet ((mAndV ((mCall fn_is_tuple_of (mCons ((mName 0).bind fun d => M.ret (.dat d)) (mCons ((M.ret (.int 2)).bind fun d => M.ret (.dat d)) (mNil)))).bind fz) (mAndV ((mCall fn_is_count (mCons ((m2 gIx (mSlot 0) ((M.ret (.int 0)).bind fun d => M.ret (.dat d))).bind fun d => M.ret (.dat d)) (mNil))).bind fz) ((mCall fn_is_count (mCons ((m2 gIx (mSlot 0) ((M.ret (.int 1)).bind fun d => M.ret (.dat d))).bind fun d => M.ret (.dat d)) (mNil))).bind fz))).bind fun d => M.ret (.sh d))
def fn_is_stamp : Fn := fnM 0 [false] m_is_stamp
-- is_row of k01
def m_is_row : M Out := sSeq (sIf (mNot (((mCall fn_is_tuple_of (mCons ((mName 0).bind fun d => M.ret (.dat d)) (mCons ((M.ret (.int 7)).bind fun d => M.ret (.dat d)) (mNil)))).bind fz).bind truD)) (sRet ((M.ret (.bool false)).bind fun d => M.ret (.sh d))) (sNext)) (sSeq (sUn (mName 0) (tTup [tName 1, tName 2, tName 3, tName 4, tName 5, tName 6, tName 7])) (sSeq (sIf (mNot (mAnd (((mCall fn_is_pair (mCons ((mName 1).bind fun d => M.ret (.dat d)) (mNil))).bind fz).bind truD) (mAnd (((mCall fn_is_stamp (mCons ((mName 2).bind fun d => M.ret (.dat d)) (mNil))).bind fz).bind truD) (mAnd (((mCall fn_is_word (mCons ((mName 3).bind fun d => M.ret (.dat d)) (mNil))).bind fz).bind truD) (((mCall fn_is_word (mCons ((mName 4).bind fun d => M.ret (.dat d)) (mNil))).bind fz).bind truD))))) (sRet ((M.ret (.bool false)).bind fun d => M.ret (.sh d))) (sNext)) (sRet ((mAndV ((mCall fn_is_count (mCons ((mName 5).bind fun d => M.ret (.dat d)) (mNil))).bind fz) (mAndV ((mCall fn_is_count (mCons ((mName 6).bind fun d => M.ret (.dat d)) (mNil))).bind fz) (m1 (gTyIs "bool") (mSlot 7)))).bind fun d => M.ret (.sh d)))))
def fn_is_row : Fn := fnM 7 [false] m_is_row
-- is_rights of k01
def m_is_rights_e1 : M PyData := (mCall fn_is_row (mCons ((mName 4).bind fun d => M.ret (.dat d)) (mNil))).bind fz
def m_is_rights_e2 : M PyData := m2 gIx (mSlot 4) ((M.ret (.int 0)).bind fun d => M.ret (.dat d))
def m_is_rights : M Out := sSeq (sIf (mNot (((mCall fn_is_tuple_of (mCons ((mName 0).bind fun d => M.ret (.dat d)) (mCons ((M.ret (.int 3)).bind fun d => M.ret (.dat d)) (mNil)))).bind fz).bind truD)) (sRet ((M.ret (.bool false)).bind fun d => M.ret (.sh d))) (sNext)) (sSeq (sUn (mName 0) (tTup [tName 1, tName 2, tName 3])) (sSeq (sIf (mNot (mAnd (((mCall fn_is_count (mCons ((mName 1).bind fun d => M.ret (.dat d)) (mNil))).bind fz).bind truD) (mAnd (((mCall fn_is_count (mCons ((mName 2).bind fun d => M.ret (.dat d)) (mNil))).bind fz).bind truD) ((m1 (gTyIs "tuple") (mSlot 3)).bind asBool)))) (sRet ((M.ret (.bool false)).bind fun d => M.ret (.sh d))) (sNext)) (sRet ((mAndV ((mL gAll (mCons (((mComp ((mName 3).bind seqItems) (tName 4) (M.ret true) (m_is_rights_e1) [4]).bind fz).bind fun d => M.ret (.dat d)) (mNil))).bind fz) ((mCall fn_rises (mCons (((mComp ((mName 3).bind seqItems) (tName 4) (M.ret true) (m_is_rights_e2) [4]).bind fz).bind fun d => M.ret (.dat d)) (mNil))).bind fz)).bind fun d => M.ret (.sh d)))))
def fn_is_rights : Fn := fnM 4 [false] m_is_rights
-- _law_odd of k01
def m_odd : M Out := sSeq (sSet 1 (mFix lstG (mCons ((M.ret .none).bind fun d => M.ret (.dat d)) (mCons ((M.ret (.bool true)).bind fun d => M.ret (.dat d)) (mCons ((M.ret (.bool false)).bind fun d => M.ret (.dat d)) (mCons ((M.ret (.int 0)).bind fun d => M.ret (.dat d)) (mCons ((M.ret (.int 1)).bind fun d => M.ret (.dat d)) (mCons (((M.ret (.int 1)).bind negD).bind fun d => M.ret (.dat d)) (mCons ((m2 gPow ((M.ret (.int 10)).bind fun d => M.ret (.dat d)) ((M.ret (.int 50)).bind fun d => M.ret (.dat d))).bind fun d => M.ret (.dat d)) (mCons ((M.ret (.str "")).bind fun d => M.ret (.dat d)) (mCons ((M.ret (.str "a")).bind fun d => M.ret (.dat d)) (mCons ((M.ret (.str "A")).bind fun d => M.ret (.dat d)) (mCons ((M.ret (.str "abcdefghi")).bind fun d => M.ret (.dat d)) (mCons ((mFix tupG (mNil)).bind fun d => M.ret (.dat d)) (mCons (((mFix lstG (mNil)).bind fz).bind fun d => M.ret (.dat d)) (mCons ((mFix tupG (mCons ((M.ret (.str "a")).bind fun d => M.ret (.dat d)) (mCons ((M.ret (.str "b")).bind fun d => M.ret (.dat d)) (mNil)))).bind fun d => M.ret (.dat d)) (mCons (((mFix lstG (mCons ((M.ret (.str "a")).bind fun d => M.ret (.dat d)) (mNil))).bind fz).bind fun d => M.ret (.dat d)) (mNil)))))))))))))))))) (sSeq (sExpr (mOl 1 (mAppend 1 (mFix tupG (mCons ((mFix tupG (mCons ((M.ret (.str "a")).bind fun d => M.ret (.dat d)) (mCons ((M.ret (.str "b")).bind fun d => M.ret (.dat d)) (mNil)))).bind fun d => M.ret (.dat d)) (mCons ((mFix tupG (mCons ((M.ret (.str "a")).bind fun d => M.ret (.dat d)) (mCons ((M.ret (.str "c")).bind fun d => M.ret (.dat d)) (mNil)))).bind fun d => M.ret (.dat d)) (mNil))))))) (sRet ((m2 gIx (mSlot 1) (((mCallO fn_take (mCons (mSlot 0) (mCons ((M.ret (.int 16)).bind fun d => M.ret (.dat d)) (mNil)))).bind fz).bind fun d => M.ret (.dat d))).bind fun d => M.ret (.sh d))))
def fn_odd : Fn := fnM 1 [true] m_odd
-- _law_bend of k01
def m_bend (self : Fn) : M Out := sSeq (sIf (mAnd ((m1 (gIsi "tuple") (mSlot 1)).bind truD) (mAnd ((m2 gNe (mSlot 1) ((mFix tupG (mNil)).bind fun d => M.ret (.dat d))).bind asBool) (mAnd ((m2 gGt (mSlot 2) ((M.ret (.int 0)).bind fun d => M.ret (.dat d))).bind asBool) ((m2 gGt (((mCallO fn_take (mCons (mSlot 0) (mCons ((M.ret (.int 3)).bind fun d => M.ret (.dat d)) (mNil)))).bind fz).bind fun d => M.ret (.dat d)) ((M.ret (.int 0)).bind fun d => M.ret (.dat d))).bind asBool)))) (sSeq (sSet 3 (mCallO fn_take (mCons (mSlot 0) (mCons (((mL gLen (mCons (mSlot 1) (mNil))).bind fz).bind fun d => M.ret (.dat d)) (mNil))))) (sRet (m2 aAddB (((m2 aAddB (((mSl (mSlot 1) (M.ret none) ((mName 3).bind fun d => (asInt d).bind fun i => M.ret (some i))).bind fz).bind fun d => M.ret (.dat d)) ((mFix tupG (mCons (((mCallO self (mCons (mSlot 0) (mCons ((m2 gIx (mSlot 1) (mSlot 3)).bind fun d => M.ret (.dat d)) (mCons ((m2 gSub (mSlot 2) ((M.ret (.int 1)).bind fun d => M.ret (.dat d))).bind fun d => M.ret (.dat d)) (mNil))))).bind fz).bind fun d => M.ret (.dat d)) (mNil))).bind fun d => M.ret (.dat d))).bind fz).bind fun d => M.ret (.dat d)) (((mSl (mSlot 1) (((m2 aAddB (mSlot 3) ((M.ret (.int 1)).bind fun d => M.ret (.dat d))).bind fz).bind fun d => (asInt d).bind fun i => M.ret (some i)) (M.ret none)).bind fz).bind fun d => M.ret (.dat d))))) (sNext)) (sSeq (sSet 4 (mCallO fn_take (mCons (mSlot 0) (mCons ((M.ret (.int 7)).bind fun d => M.ret (.dat d)) (mNil))))) (sSeq (sIf ((m1 (gIsi "tuple") (mSlot 1)).bind truD) (sSeq (sSet 3 (mCallO fn_take (mCons (mSlot 0) (mCons (((m2 aAddB (((mL gLen (mCons (mSlot 1) (mNil))).bind fz).bind fun d => M.ret (.dat d)) ((M.ret (.int 1)).bind fun d => M.ret (.dat d))).bind fz).bind fun d => M.ret (.dat d)) (mNil))))) (sSeq (sIf ((m2 gEq (mSlot 4) ((M.ret (.int 3)).bind fun d => M.ret (.dat d))).bind asBool) (sRet (m2 aAddB (((m2 aAddB (((mSl (mSlot 1) (M.ret none) ((mName 3).bind fun d => (asInt d).bind fun i => M.ret (some i))).bind fz).bind fun d => M.ret (.dat d)) ((mFix tupG (mCons (((mCallO fn_odd (mCons (mSlot 0) (mNil))).bind fz).bind fun d => M.ret (.dat d)) (mNil))).bind fun d => M.ret (.dat d))).bind fz).bind fun d => M.ret (.dat d)) (((mSl (mSlot 1) ((mName 3).bind fun d => (asInt d).bind fun i => M.ret (some i)) (M.ret none)).bind fz).bind fun d => M.ret (.dat d)))) (sNext)) (sSeq (sIf ((m2 gLt (mSlot 4) ((M.ret (.int 5)).bind fun d => M.ret (.dat d))).bind asBool) (sRet ((m2 gIx (((mFix lstG (mCons (((mL gList (mCons (mSlot 1) (mNil))).bind fz).bind fun d => M.ret (.dat d)) (mCons (((m2 aAddB (((mSl (mSlot 1) (M.ret none) ((mName 3).bind fun d => (asInt d).bind fun i => M.ret (some i))).bind fz).bind fun d => M.ret (.dat d)) (((mSl (mSlot 1) (((m2 aAddB (mSlot 3) ((M.ret (.int 1)).bind fun d => M.ret (.dat d))).bind fz).bind fun d => (asInt d).bind fun i => M.ret (some i)) (M.ret none)).bind fz).bind fun d => M.ret (.dat d))).bind fz).bind fun d => M.ret (.dat d)) (mCons (((m2 aAddB (((m2 aAddB (((mSl (mSlot 1) (M.ret none) ((mName 3).bind fun d => (asInt d).bind fun i => M.ret (some i))).bind fz).bind fun d => M.ret (.dat d)) (((mSl (mSlot 1) ((mName 3).bind fun d => (asInt d).bind fun i => M.ret (some i)) (((m2 aAddB (mSlot 3) ((M.ret (.int 1)).bind fun d => M.ret (.dat d))).bind fz).bind fun d => (asInt d).bind fun i => M.ret (some i))).bind fz).bind fun d => M.ret (.dat d))).bind fz).bind fun d => M.ret (.dat d)) (((mSl (mSlot 1) ((mName 3).bind fun d => (asInt d).bind fun i => M.ret (some i)) (M.ret none)).bind fz).bind fun d => M.ret (.dat d))).bind fz).bind fun d => M.ret (.dat d)) (mCons ((mFix tupG (mNil)).bind fun d => M.ret (.dat d)) (mCons (((m1 gRev2 (mSlot 1)).bind fz).bind fun d => M.ret (.dat d)) (mNil))))))).bind fz).bind fun d => M.ret (.dat d)) (mSlot 4)).bind fun d => M.ret (.sh d))) (sNext)) (sRet (mCallO fn_odd (mCons (mSlot 0) (mNil))))))) (sNext)) (sSeq (sIf (mAnd ((m1 (gIsi "int") (mSlot 1)).bind truD) ((m2 gLt (mSlot 4) ((M.ret (.int 4)).bind fun d => M.ret (.dat d))).bind asBool)) (sRet ((m2 gIx (((mFix lstG (mCons (((m2 aAddB (mSlot 1) ((M.ret (.int 1)).bind fun d => M.ret (.dat d))).bind fz).bind fun d => M.ret (.dat d)) (mCons ((m2 gEq (mSlot 1) ((M.ret (.int 0)).bind fun d => M.ret (.dat d))).bind fun d => M.ret (.dat d)) (mCons (((mL gInt (mCons (mSlot 1) (mNil))).bind fz).bind fun d => M.ret (.dat d)) (mCons (((mL gStr (mCons (mSlot 1) (mNil))).bind fz).bind fun d => M.ret (.dat d)) (mNil)))))).bind fz).bind fun d => M.ret (.dat d)) (mSlot 4)).bind fun d => M.ret (.sh d))) (sNext)) (sSeq (sIf (mAnd ((m1 (gIsi "str") (mSlot 1)).bind truD) ((m2 gLt (mSlot 4) ((M.ret (.int 3)).bind fun d => M.ret (.dat d))).bind asBool)) (sRet ((m2 gIx (((mFix lstG (mCons (((m2 aAddB (mSlot 1) ((M.ret (.str "a")).bind fun d => M.ret (.dat d))).bind fz).bind fun d => M.ret (.dat d)) (mCons (((mSl (mSlot 1) ((M.ret (.int 1)).bind fun d => (asInt d).bind fun i => M.ret (some i)) (M.ret none)).bind fz).bind fun d => M.ret (.dat d)) (mCons ((m1 gUpper (mSlot 1)).bind fun d => M.ret (.dat d)) (mNil))))).bind fz).bind fun d => M.ret (.dat d)) (mSlot 4)).bind fun d => M.ret (.sh d))) (sNext)) (sRet (mCallO fn_odd (mCons (mSlot 0) (mNil))))))))
def fn_bend : Nat → Fn
  | 0 => fun _ => .bad
  | n + 1 => fnM 2 [true, false, false] (m_bend (fn_bend n))
-- _law_number of k01
def m_number : M Out := sRet ((mAndV (m1 (gIsi "int") (mSlot 0)) (mAndV (mNotV (m1 (gIsi "bool") (mSlot 0))) (m2 gGe (mSlot 0) ((M.ret (.int 0)).bind fun d => M.ret (.dat d))))).bind fun d => M.ret (.sh d))
def fn_number : Fn := fnM 0 [false] m_number
-- _law_word of k01
def m_word_e1 : M PyData := mName 1
def m_word_t2 : M Bool := mNot ((mChain gLe gLe (M.ret (.str "a")) (mName 1) (M.ret (.str "z"))).bind asBool)
def m_word : M Out := sRet ((mAndV (m1 (gIsi "str") (mSlot 0)) (mAndV (mChain gLt gLt (M.ret (.int 0)) ((mL gLen (mCons (mSlot 0) (mNil))).bind fz) (M.ret (.int 9))) (m2 gEq (((mComp ((mName 0).bind txtItems) (tName 1) (m_word_t2) (m_word_e1) [1]).bind fz).bind fun d => M.ret (.dat d)) (((mFix lstG (mNil)).bind fz).bind fun d => M.ret (.dat d))))).bind fun d => M.ret (.sh d))
def fn_word : Fn := fnM 1 [false] m_word
-- _law_hand of k01
def m_hand : M Out := sRet ((mAndV (m1 (gIsi "tuple") (mSlot 0)) (mAndV (m2 gEq (((mL gLen (mCons (mSlot 0) (mNil))).bind fz).bind fun d => M.ret (.dat d)) ((M.ret (.int 2)).bind fun d => M.ret (.dat d))) (mAndV ((mCall fn_word (mCons ((m2 gIx (mSlot 0) ((M.ret (.int 0)).bind fun d => M.ret (.dat d))).bind fun d => M.ret (.dat d)) (mNil))).bind fz) ((mCall fn_word (mCons ((m2 gIx (mSlot 0) ((M.ret (.int 1)).bind fun d => M.ret (.dat d))).bind fun d => M.ret (.dat d)) (mNil))).bind fz)))).bind fun d => M.ret (.sh d))
def fn_hand : Fn := fnM 0 [false] m_hand
-- _law_pair of k01
def m_pair : M Out := sSeq (sIf (mOr (mNot ((m1 (gIsi "tuple") (mSlot 0)).bind truD)) (mOr ((m2 gNe (((mL gLen (mCons (mSlot 0) (mNil))).bind fz).bind fun d => M.ret (.dat d)) ((M.ret (.int 2)).bind fun d => M.ret (.dat d))).bind asBool) (mOr (mNot (((mCall fn_hand (mCons ((m2 gIx (mSlot 0) ((M.ret (.int 0)).bind fun d => M.ret (.dat d))).bind fun d => M.ret (.dat d)) (mNil))).bind fz).bind truD)) (mNot (((mCall fn_hand (mCons ((m2 gIx (mSlot 0) ((M.ret (.int 1)).bind fun d => M.ret (.dat d))).bind fun d => M.ret (.dat d)) (mNil))).bind fz).bind truD))))) (sRet ((M.ret (.bool false)).bind fun d => M.ret (.sh d))) (sNext)) (sRet ((m2 gLt ((m2 gIx (mSlot 0) ((M.ret (.int 0)).bind fun d => M.ret (.dat d))).bind fun d => M.ret (.dat d)) ((m2 gIx (mSlot 0) ((M.ret (.int 1)).bind fun d => M.ret (.dat d))).bind fun d => M.ret (.dat d))).bind fun d => M.ret (.sh d)))
def fn_pair : Fn := fnM 0 [false] m_pair
-- _law_is_row of k01
def m_own_is_row : M Out := sSeq (sIf (mOr (mNot ((m1 (gIsi "tuple") (mSlot 0)).bind truD)) (mOr ((m2 gNe (((mL gLen (mCons (mSlot 0) (mNil))).bind fz).bind fun d => M.ret (.dat d)) ((M.ret (.int 7)).bind fun d => M.ret (.dat d))).bind asBool) (mNot (((mCall fn_pair (mCons ((m2 gIx (mSlot 0) ((M.ret (.int 0)).bind fun d => M.ret (.dat d))).bind fun d => M.ret (.dat d)) (mNil))).bind fz).bind truD)))) (sRet ((M.ret (.bool false)).bind fun d => M.ret (.sh d))) (sNext)) (sSeq (sUn (mName 0) (tTup [tName 1, tName 2, tName 3, tName 4, tName 5, tName 6, tName 7])) (sSeq (sIf (mOr (mNot ((m1 (gIsi "tuple") (mSlot 2)).bind truD)) (mOr ((m2 gNe (((mL gLen (mCons (mSlot 2) (mNil))).bind fz).bind fun d => M.ret (.dat d)) ((M.ret (.int 2)).bind fun d => M.ret (.dat d))).bind asBool) (mOr (mNot (((mCall fn_number (mCons ((m2 gIx (mSlot 2) ((M.ret (.int 0)).bind fun d => M.ret (.dat d))).bind fun d => M.ret (.dat d)) (mNil))).bind fz).bind truD)) (mNot (((mCall fn_number (mCons ((m2 gIx (mSlot 2) ((M.ret (.int 1)).bind fun d => M.ret (.dat d))).bind fun d => M.ret (.dat d)) (mNil))).bind fz).bind truD))))) (sRet ((M.ret (.bool false)).bind fun d => M.ret (.sh d))) (sNext)) (sSeq (sIf (mOr (mNot (((mCall fn_word (mCons ((mName 3).bind fun d => M.ret (.dat d)) (mNil))).bind fz).bind truD)) (mOr (mNot (((mCall fn_word (mCons ((mName 4).bind fun d => M.ret (.dat d)) (mNil))).bind fz).bind truD)) (mOr (mNot (((mCall fn_number (mCons ((mName 5).bind fun d => M.ret (.dat d)) (mNil))).bind fz).bind truD)) (mNot (((mCall fn_number (mCons ((mName 6).bind fun d => M.ret (.dat d)) (mNil))).bind fz).bind truD))))) (sRet ((M.ret (.bool false)).bind fun d => M.ret (.sh d))) (sNext)) (sRet ((m1 (gIsi "bool") (mSlot 7)).bind fun d => M.ret (.sh d))))))
def fn_own_is_row : Fn := fnM 7 [false] m_own_is_row
-- _law_rise of k01
def m_rise_e1 : M PyData := mName 1
def m_rise_t2 : M Bool := mNot ((m2 gLt ((m2 gIx (mSlot 0) ((m2 gSub (mSlot 1) ((M.ret (.int 1)).bind fun d => M.ret (.dat d))).bind fun d => M.ret (.dat d))).bind fun d => M.ret (.dat d)) ((m2 gIx (mSlot 0) (mSlot 1)).bind fun d => M.ret (.dat d))).bind asBool)
def m_rise : M Out := sRet ((m2 gEq (((mComp (mL rng2 (mCons ((M.ret (.int 1)).bind fun d => M.ret (.dat d)) (mCons (((mL gLen (mCons (mSlot 0) (mNil))).bind fz).bind fun d => M.ret (.dat d)) (mNil)))) (tName 1) (m_rise_t2) (m_rise_e1) [1]).bind fz).bind fun d => M.ret (.dat d)) (((mFix lstG (mNil)).bind fz).bind fun d => M.ret (.dat d))).bind fun d => M.ret (.sh d))
def fn_rise : Fn := fnM 1 [false] m_rise
-- _law_is_lot of k01
def m_is_lot_e1 : M PyData := mName 1
def m_is_lot_t2 : M Bool := mNot (((mCall fn_own_is_row (mCons ((mName 1).bind fun d => M.ret (.dat d)) (mNil))).bind fz).bind truD)
def m_is_lot_e3 : M PyData := m2 gIx (mSlot 1) ((M.ret (.int 0)).bind fun d => M.ret (.dat d))
def m_is_lot : M Out := sSeq (sIf (mOr (mNot ((m1 (gIsi "tuple") (mSlot 0)).bind truD)) (mOr ((m2 gNe (((mL gLen (mCons (mSlot 0) (mNil))).bind fz).bind fun d => M.ret (.dat d)) ((M.ret (.int 3)).bind fun d => M.ret (.dat d))).bind asBool) (mOr (mNot (((mCall fn_number (mCons ((m2 gIx (mSlot 0) ((M.ret (.int 0)).bind fun d => M.ret (.dat d))).bind fun d => M.ret (.dat d)) (mNil))).bind fz).bind truD)) (mNot (((mCall fn_number (mCons ((m2 gIx (mSlot 0) ((M.ret (.int 1)).bind fun d => M.ret (.dat d))).bind fun d => M.ret (.dat d)) (mNil))).bind fz).bind truD))))) (sRet ((M.ret (.bool false)).bind fun d => M.ret (.sh d))) (sNext)) (sSeq (sIf (mOr (mNot ((m1 (gIsi "tuple") ((m2 gIx (mSlot 0) ((M.ret (.int 2)).bind fun d => M.ret (.dat d))).bind fun d => M.ret (.dat d))).bind truD)) ((m2 gNe (((mComp ((m2 gIx (mSlot 0) ((M.ret (.int 2)).bind fun d => M.ret (.dat d))).bind seqItems) (tName 1) (m_is_lot_t2) (m_is_lot_e1) [1]).bind fz).bind fun d => M.ret (.dat d)) (((mFix lstG (mNil)).bind fz).bind fun d => M.ret (.dat d))).bind asBool)) (sRet ((M.ret (.bool false)).bind fun d => M.ret (.sh d))) (sNext)) (sRet (mCall fn_rise (mCons (((mComp ((m2 gIx (mSlot 0) ((M.ret (.int 2)).bind fun d => M.ret (.dat d))).bind seqItems) (tName 1) (M.ret true) (m_is_lot_e3) [1]).bind fz).bind fun d => M.ret (.dat d)) (mNil)))))
def fn_is_lot : Fn := fnM 1 [false] m_is_lot
-- _law_is_triple of k01
def m_is_triple : M Out := sSeq (sIf (mOr (mNot ((m1 (gIsi "tuple") (mSlot 0)).bind truD)) (mOr ((m2 gNe (((mL gLen (mCons (mSlot 0) (mNil))).bind fz).bind fun d => M.ret (.dat d)) ((M.ret (.int 3)).bind fun d => M.ret (.dat d))).bind asBool) (mNot (((mCall fn_word (mCons ((m2 gIx (mSlot 0) ((M.ret (.int 0)).bind fun d => M.ret (.dat d))).bind fun d => M.ret (.dat d)) (mNil))).bind fz).bind truD)))) (sRet ((M.ret (.bool false)).bind fun d => M.ret (.sh d))) (sNext)) (sRet ((mAndV ((mCall fn_number (mCons ((m2 gIx (mSlot 0) ((M.ret (.int 1)).bind fun d => M.ret (.dat d))).bind fun d => M.ret (.dat d)) (mNil))).bind fz) ((mCall fn_number (mCons ((m2 gIx (mSlot 0) ((M.ret (.int 2)).bind fun d => M.ret (.dat d))).bind fun d => M.ret (.dat d)) (mNil))).bind fz)).bind fun d => M.ret (.sh d)))
def fn_is_triple : Fn := fnM 0 [false] m_is_triple
-- _law_is_news of k01
def m_is_news_e1 : M PyData := mName 1
def m_is_news_t2 : M Bool := mNot (((mCall fn_is_triple (mCons ((mName 1).bind fun d => M.ret (.dat d)) (mNil))).bind fz).bind truD)
def m_is_news_e3 : M PyData := m2 gIx (mSlot 1) ((M.ret (.int 0)).bind fun d => M.ret (.dat d))
def m_is_news : M Out := sSeq (sIf (mOr (mNot ((m1 (gIsi "tuple") (mSlot 0)).bind truD)) (mOr ((m2 gEq (mSlot 0) ((mFix tupG (mNil)).bind fun d => M.ret (.dat d))).bind asBool) ((m2 gNe (((mComp ((mName 0).bind seqItems) (tName 1) (m_is_news_t2) (m_is_news_e1) [1]).bind fz).bind fun d => M.ret (.dat d)) (((mFix lstG (mNil)).bind fz).bind fun d => M.ret (.dat d))).bind asBool))) (sRet ((M.ret (.bool false)).bind fun d => M.ret (.sh d))) (sNext)) (sRet (mCall fn_rise (mCons (((mComp ((mName 0).bind seqItems) (tName 1) (M.ret true) (m_is_news_e3) [1]).bind fz).bind fun d => M.ret (.dat d)) (mNil))))
def fn_is_news : Fn := fnM 1 [false] m_is_news
-- _law_things of k01
def m_things_e1 : M PyData := (mSl (mSlot 11) (M.ret none) ((M.ret (.int 2)).bind fun d => (asInt d).bind fun i => M.ret (some i))).bind fz
def m_things_b2 : M Out := sExpr (mOl 7 (mAppend 7 ((m2 aAdd (((m2 aAdd (((mSl (mSlot 3) (M.ret none) ((mName 8).bind fun d => (asInt d).bind fun i => M.ret (some i))).bind fz).bind fun d => M.ret (.dat d)) ((mFix tupG (mCons ((mName 9).bind fun d => M.ret (.dat d)) (mNil))).bind fun d => M.ret (.dat d))).bind fz).bind fun d => M.ret (.dat d)) (((mSl (mSlot 3) (((m2 aAdd (mSlot 8) ((M.ret (.int 1)).bind fun d => M.ret (.dat d))).bind fz).bind fun d => (asInt d).bind fun i => M.ret (some i)) (M.ret none)).bind fz).bind fun d => M.ret (.dat d))).bind fz)))
def m_things_b3 : M Out := sExpr (mOl 7 (mAppend 7 ((m2 aAdd (((m2 aAdd (((mSl (mSlot 3) (M.ret none) ((mName 8).bind fun d => (asInt d).bind fun i => M.ret (some i))).bind fz).bind fun d => M.ret (.dat d)) ((mFix tupG (mCons ((mName 9).bind fun d => M.ret (.dat d)) (mNil))).bind fun d => M.ret (.dat d))).bind fz).bind fun d => M.ret (.dat d)) (((mSl (mSlot 3) (((m2 aAdd (mSlot 8) ((M.ret (.int 1)).bind fun d => M.ret (.dat d))).bind fz).bind fun d => (asInt d).bind fun i => M.ret (some i)) (M.ret none)).bind fz).bind fun d => M.ret (.dat d))).bind fz)))
def m_things_b4 : M Out := sExpr (mOl 7 (mAppend 7 ((m2 aAdd (((mSl (mSlot 4) (M.ret none) ((M.ret (.int 2)).bind fun d => (asInt d).bind fun i => M.ret (some i))).bind fz).bind fun d => M.ret (.dat d)) ((mFix tupG (mCons ((mName 10).bind fun d => M.ret (.dat d)) (mNil))).bind fun d => M.ret (.dat d))).bind fz)))
def m_things_b5 : M Out := sExpr (mOl 7 (mAppend 7 ((m2 aAdd (((m2 aAdd (((mSl (mSlot 3) (M.ret none) ((mName 8).bind fun d => (asInt d).bind fun i => M.ret (some i))).bind fz).bind fun d => M.ret (.dat d)) ((mFix tupG (mCons ((mName 9).bind fun d => M.ret (.dat d)) (mNil))).bind fun d => M.ret (.dat d))).bind fz).bind fun d => M.ret (.dat d)) (((mSl (mSlot 3) (((m2 aAdd (mSlot 8) ((M.ret (.int 1)).bind fun d => M.ret (.dat d))).bind fz).bind fun d => (asInt d).bind fun i => M.ret (some i)) (M.ret none)).bind fz).bind fun d => M.ret (.dat d))).bind fz)))
def m_things : M Out := sSeq (sUn (mFix tupG (mCons (((mCallO fn_row (mCons (mSlot 0) (mCons ((m2 gIx (mSlot 2) ((M.ret (.int 0)).bind fun d => M.ret (.dat d))).bind fun d => M.ret (.dat d)) (mCons ((mName 1).bind fun d => M.ret (.dat d)) (mNil))))).bind fz).bind fun d => M.ret (.dat d)) (mCons (((mCallO fn_lot (mCons (mSlot 0) (mCons ((mName 2).bind fun d => M.ret (.dat d)) (mCons ((mName 1).bind fun d => M.ret (.dat d)) (mNil))))).bind fz).bind fun d => M.ret (.dat d)) (mCons (((mCallO fn_news (mCons (mSlot 0) (mCons ((mName 1).bind fun d => M.ret (.dat d)) (mNil)))).bind fz).bind fun d => M.ret (.dat d)) (mCons ((m2 gIx (mSlot 2) ((M.ret (.int 0)).bind fun d => M.ret (.dat d))).bind fun d => M.ret (.dat d)) (mNil)))))) (tTup [tName 3, tName 4, tName 5, tName 6])) (sSeq (sSet 7 (mFix lstG (mCons ((mName 3).bind fun d => M.ret (.dat d)) (mCons ((mName 4).bind fun d => M.ret (.dat d)) (mCons ((mName 5).bind fun d => M.ret (.dat d)) (mCons ((mName 6).bind fun d => M.ret (.dat d)) (mCons ((m2 gIx (mSlot 6) ((M.ret (.int 1)).bind fun d => M.ret (.dat d))).bind fun d => M.ret (.dat d)) (mCons (((m1 gRev2 (mSlot 6)).bind fz).bind fun d => M.ret (.dat d)) (mCons ((mFix tupG (mCons ((m2 gIx (mSlot 6) ((M.ret (.int 0)).bind fun d => M.ret (.dat d))).bind fun d => M.ret (.dat d)) (mCons ((m2 gIx (mSlot 6) ((M.ret (.int 0)).bind fun d => M.ret (.dat d))).bind fun d => M.ret (.dat d)) (mNil)))).bind fun d => M.ret (.dat d)) (mCons (((mL gList (mCons (mSlot 6) (mNil))).bind fz).bind fun d => M.ret (.dat d)) (mCons (((mL gList (mCons ((m2 gIx (mSlot 6) ((M.ret (.int 0)).bind fun d => M.ret (.dat d))).bind fun d => M.ret (.dat d)) (mNil))).bind fz).bind fun d => M.ret (.dat d)) (mCons (((m2 aAdd (mSlot 6) (((mSl (mSlot 6) (M.ret none) ((M.ret (.int 1)).bind fun d => (asInt d).bind fun i => M.ret (some i))).bind fz).bind fun d => M.ret (.dat d))).bind fz).bind fun d => M.ret (.dat d)) (mNil))))))))))))) (sSeq (sSet 7 (m2 aAdd (mSlot 7) (((mFix lstG (mCons (((m1 gRev2 (mSlot 5)).bind fz).bind fun d => M.ret (.dat d)) (mCons (((m2 aAdd (mSlot 5) (((mSl (mSlot 5) (((M.ret (.int 1)).bind negD).bind fun d => (asInt d).bind fun i => M.ret (some i)) (M.ret none)).bind fz).bind fun d => M.ret (.dat d))).bind fz).bind fun d => M.ret (.dat d)) (mCons (((mSl (mSlot 5) (M.ret none) ((M.ret (.int 1)).bind fun d => (asInt d).bind fun i => M.ret (some i))).bind fz).bind fun d => M.ret (.dat d)) (mCons (((mL gList (mCons (mSlot 5) (mNil))).bind fz).bind fun d => M.ret (.dat d)) (mCons (((mL gTuple (mCons (((mComp ((mName 5).bind seqItems) (tName 11) (M.ret true) (m_things_e1) [11]).bind fz).bind fun d => M.ret (.dat d)) (mNil))).bind fz).bind fun d => M.ret (.dat d)) (mCons (((mL gList (mCons (mSlot 3) (mNil))).bind fz).bind fun d => M.ret (.dat d)) (mNil)))))))).bind fz).bind fun d => M.ret (.dat d)))) (sSeq (sFor ((mFix tupG (mCons ((mFix tupG (mCons ((M.ret (.int 0)).bind fun d => M.ret (.dat d)) (mCons (((m1 gRev2 (mSlot 6)).bind fz).bind fun d => M.ret (.dat d)) (mNil)))).bind fun d => M.ret (.dat d)) (mCons ((mFix tupG (mCons ((M.ret (.int 1)).bind fun d => M.ret (.dat d)) (mCons ((mFix tupG (mCons ((M.ret (.int 0)).bind fun d => M.ret (.dat d)) (mCons (((M.ret (.int 1)).bind negD).bind fun d => M.ret (.dat d)) (mNil)))).bind fun d => M.ret (.dat d)) (mNil)))).bind fun d => M.ret (.dat d)) (mCons ((mFix tupG (mCons ((M.ret (.int 1)).bind fun d => M.ret (.dat d)) (mCons ((mFix tupG (mCons ((M.ret (.bool true)).bind fun d => M.ret (.dat d)) (mCons ((M.ret (.int 0)).bind fun d => M.ret (.dat d)) (mNil)))).bind fun d => M.ret (.dat d)) (mNil)))).bind fun d => M.ret (.dat d)) (mCons ((mFix tupG (mCons ((M.ret (.int 1)).bind fun d => M.ret (.dat d)) (mCons (((mFix lstG (mCons ((M.ret (.int 0)).bind fun d => M.ret (.dat d)) (mCons ((M.ret (.int 0)).bind fun d => M.ret (.dat d)) (mNil)))).bind fz).bind fun d => M.ret (.dat d)) (mNil)))).bind fun d => M.ret (.dat d)) (mCons ((mFix tupG (mCons ((M.ret (.int 1)).bind fun d => M.ret (.dat d)) (mCons ((mFix tupG (mCons ((M.ret (.int 0)).bind fun d => M.ret (.dat d)) (mCons ((M.ret (.int 0)).bind fun d => M.ret (.dat d)) (mCons ((M.ret (.int 0)).bind fun d => M.ret (.dat d)) (mNil))))).bind fun d => M.ret (.dat d)) (mNil)))).bind fun d => M.ret (.dat d)) (mCons ((mFix tupG (mCons ((M.ret (.int 2)).bind fun d => M.ret (.dat d)) (mCons ((M.ret (.str "Ash")).bind fun d => M.ret (.dat d)) (mNil)))).bind fun d => M.ret (.dat d)) (mCons ((mFix tupG (mCons ((M.ret (.int 3)).bind fun d => M.ret (.dat d)) (mCons ((M.ret (.str "")).bind fun d => M.ret (.dat d)) (mNil)))).bind fun d => M.ret (.dat d)) (mNil))))))))).bind seqItems) (tTup [tName 8, tName 9]) (m_things_b2)) (sSeq (sFor ((mFix tupG (mCons ((mFix tupG (mCons ((M.ret (.int 4)).bind fun d => M.ret (.dat d)) (mCons (((M.ret (.int 1)).bind negD).bind fun d => M.ret (.dat d)) (mNil)))).bind fun d => M.ret (.dat d)) (mCons ((mFix tupG (mCons ((M.ret (.int 4)).bind fun d => M.ret (.dat d)) (mCons ((m2 gPow ((M.ret (.int 10)).bind fun d => M.ret (.dat d)) ((M.ret (.int 59)).bind fun d => M.ret (.dat d))).bind fun d => M.ret (.dat d)) (mNil)))).bind fun d => M.ret (.dat d)) (mCons ((mFix tupG (mCons ((M.ret (.int 5)).bind fun d => M.ret (.dat d)) (mCons ((M.ret (.bool true)).bind fun d => M.ret (.dat d)) (mNil)))).bind fun d => M.ret (.dat d)) (mCons ((mFix tupG (mCons ((M.ret (.int 5)).bind fun d => M.ret (.dat d)) (mCons ((M.ret .none).bind fun d => M.ret (.dat d)) (mNil)))).bind fun d => M.ret (.dat d)) (mCons ((mFix tupG (mCons ((M.ret (.int 6)).bind fun d => M.ret (.dat d)) (mCons ((M.ret (.int 1)).bind fun d => M.ret (.dat d)) (mNil)))).bind fun d => M.ret (.dat d)) (mCons ((mFix tupG (mCons ((M.ret (.int 6)).bind fun d => M.ret (.dat d)) (mCons ((M.ret .none).bind fun d => M.ret (.dat d)) (mNil)))).bind fun d => M.ret (.dat d)) (mCons ((mFix tupG (mCons ((M.ret (.int 2)).bind fun d => M.ret (.dat d)) (mCons ((M.ret (.str "far")).bind fun d => M.ret (.dat d)) (mNil)))).bind fun d => M.ret (.dat d)) (mCons ((mFix tupG (mCons ((M.ret (.int 3)).bind fun d => M.ret (.dat d)) (mCons ((M.ret (.str "zzzzzzzzz")).bind fun d => M.ret (.dat d)) (mNil)))).bind fun d => M.ret (.dat d)) (mNil)))))))))).bind seqItems) (tTup [tName 8, tName 9]) (m_things_b3)) (sSeq (sFor ((mFix tupG (mCons (((m1 gRev2 ((m2 gIx (mSlot 4) ((M.ret (.int 2)).bind fun d => M.ret (.dat d))).bind fun d => M.ret (.dat d))).bind fz).bind fun d => M.ret (.dat d)) (mCons (((m2 aAdd ((m2 gIx (mSlot 4) ((M.ret (.int 2)).bind fun d => M.ret (.dat d))).bind fun d => M.ret (.dat d)) (((mSl ((m2 gIx (mSlot 4) ((M.ret (.int 2)).bind fun d => M.ret (.dat d))).bind fun d => M.ret (.dat d)) (((M.ret (.int 1)).bind negD).bind fun d => (asInt d).bind fun i => M.ret (some i)) (M.ret none)).bind fz).bind fun d => M.ret (.dat d))).bind fz).bind fun d => M.ret (.dat d)) (mCons (((mL gList (mCons ((m2 gIx (mSlot 4) ((M.ret (.int 2)).bind fun d => M.ret (.dat d))).bind fun d => M.ret (.dat d)) (mNil))).bind fz).bind fun d => M.ret (.dat d)) (mCons ((mFix tupG (mCons ((mName 3).bind fun d => M.ret (.dat d)) (mNil))).bind fun d => M.ret (.dat d)) (mCons ((mFix tupG (mCons ((mName 3).bind fun d => M.ret (.dat d)) (mCons (((m2 aAdd (((mSl (mSlot 3) (M.ret none) ((M.ret (.int 6)).bind fun d => (asInt d).bind fun i => M.ret (some i))).bind fz).bind fun d => M.ret (.dat d)) ((mFix tupG (mCons ((mNotV (m2 gIx (mSlot 3) ((M.ret (.int 6)).bind fun d => M.ret (.dat d)))).bind fun d => M.ret (.dat d)) (mNil))).bind fun d => M.ret (.dat d))).bind fz).bind fun d => M.ret (.dat d)) (mNil)))).bind fun d => M.ret (.dat d)) (mCons ((mFix tupG (mCons ((mFix tupG (mNil)).bind fun d => M.ret (.dat d)) (mNil))).bind fun d => M.ret (.dat d)) (mNil)))))))).bind seqItems) (tName 10) (m_things_b4)) (sSeq (sSet 7 (m2 aAdd (mSlot 7) (((mFix lstG (mCons (((m2 aAdd ((mFix tupG (mCons (((M.ret (.int 1)).bind negD).bind fun d => M.ret (.dat d)) (mNil))).bind fun d => M.ret (.dat d)) (((mSl (mSlot 4) ((M.ret (.int 1)).bind fun d => (asInt d).bind fun i => M.ret (some i)) (M.ret none)).bind fz).bind fun d => M.ret (.dat d))).bind fz).bind fun d => M.ret (.dat d)) (mCons ((mFix tupG (mCons ((m2 gIx (mSlot 4) ((M.ret (.int 0)).bind fun d => M.ret (.dat d))).bind fun d => M.ret (.dat d)) (mCons ((M.ret (.bool true)).bind fun d => M.ret (.dat d)) (mCons ((mFix tupG (mNil)).bind fun d => M.ret (.dat d)) (mNil))))).bind fun d => M.ret (.dat d)) (mCons ((mFix tupG (mCons ((m2 gPow ((M.ret (.int 10)).bind fun d => M.ret (.dat d)) ((M.ret (.int 59)).bind fun d => M.ret (.dat d))).bind fun d => M.ret (.dat d)) (mCons ((m2 gPow ((M.ret (.int 10)).bind fun d => M.ret (.dat d)) ((M.ret (.int 59)).bind fun d => M.ret (.dat d))).bind fun d => M.ret (.dat d)) (mCons ((mFix tupG (mNil)).bind fun d => M.ret (.dat d)) (mNil))))).bind fun d => M.ret (.dat d)) (mCons (((mSl (mSlot 4) (M.ret none) ((M.ret (.int 2)).bind fun d => (asInt d).bind fun i => M.ret (some i))).bind fz).bind fun d => M.ret (.dat d)) (mCons (((m2 aAdd (mSlot 4) ((mFix tupG (mCons ((M.ret (.int 0)).bind fun d => M.ret (.dat d)) (mNil))).bind fun d => M.ret (.dat d))).bind fz).bind fun d => M.ret (.dat d)) (mCons ((mFix tupG (mCons ((M.ret (.int 0)).bind fun d => M.ret (.dat d)) (mCons ((M.ret (.int 0)).bind fun d => M.ret (.dat d)) (mCons ((mFix tupG (mNil)).bind fun d => M.ret (.dat d)) (mNil))))).bind fun d => M.ret (.dat d)) (mNil)))))))).bind fz).bind fun d => M.ret (.dat d)))) (sSeq (sSet 7 (m2 aAdd (mSlot 7) (((mFix lstG (mCons ((mFix tupG (mCons ((mFix tupG (mCons ((M.ret (.str "ash")).bind fun d => M.ret (.dat d)) (mCons ((M.ret (.int 0)).bind fun d => M.ret (.dat d)) (mCons ((M.ret (.int 0)).bind fun d => M.ret (.dat d)) (mNil))))).bind fun d => M.ret (.dat d)) (mCons ((mFix tupG (mCons ((M.ret (.str "elm")).bind fun d => M.ret (.dat d)) (mCons ((M.ret (.int 0)).bind fun d => M.ret (.dat d)) (mCons ((M.ret (.int 0)).bind fun d => M.ret (.dat d)) (mCons ((M.ret (.int 0)).bind fun d => M.ret (.dat d)) (mNil)))))).bind fun d => M.ret (.dat d)) (mNil)))).bind fun d => M.ret (.dat d)) (mCons ((mFix tupG (mCons ((mFix tupG (mCons ((M.ret (.str "ash")).bind fun d => M.ret (.dat d)) (mCons ((M.ret (.int 0)).bind fun d => M.ret (.dat d)) (mCons (((M.ret (.int 1)).bind negD).bind fun d => M.ret (.dat d)) (mNil))))).bind fun d => M.ret (.dat d)) (mNil))).bind fun d => M.ret (.dat d)) (mCons ((mFix tupG (mCons ((mFix tupG (mCons ((M.ret (.str "Ash")).bind fun d => M.ret (.dat d)) (mCons ((M.ret (.int 0)).bind fun d => M.ret (.dat d)) (mCons ((M.ret (.int 0)).bind fun d => M.ret (.dat d)) (mNil))))).bind fun d => M.ret (.dat d)) (mNil))).bind fun d => M.ret (.dat d)) (mCons ((mFix tupG (mCons ((mFix tupG (mCons ((M.ret (.str "ash")).bind fun d => M.ret (.dat d)) (mCons ((M.ret (.bool true)).bind fun d => M.ret (.dat d)) (mCons ((M.ret (.int 0)).bind fun d => M.ret (.dat d)) (mNil))))).bind fun d => M.ret (.dat d)) (mNil))).bind fun d => M.ret (.dat d)) (mNil)))))).bind fz).bind fun d => M.ret (.dat d)))) (sSeq (sSet 7 (m2 aAdd (mSlot 7) (((mFix lstG (mCons (((m2 aAdd (mSlot 5) ((mFix tupG (mCons ((mFix tupG (mCons ((m2 gIx ((m2 gIx (mSlot 5) (((M.ret (.int 1)).bind negD).bind fun d => M.ret (.dat d))).bind fun d => M.ret (.dat d)) ((M.ret (.int 0)).bind fun d => M.ret (.dat d))).bind fun d => M.ret (.dat d)) (mCons ((m2 gIx ((m2 gIx (mSlot 5) (((M.ret (.int 1)).bind negD).bind fun d => M.ret (.dat d))).bind fun d => M.ret (.dat d)) ((M.ret (.int 1)).bind fun d => M.ret (.dat d))).bind fun d => M.ret (.dat d)) (mCons (((m2 aAdd ((m2 gIx ((m2 gIx (mSlot 5) (((M.ret (.int 1)).bind negD).bind fun d => M.ret (.dat d))).bind fun d => M.ret (.dat d)) ((M.ret (.int 2)).bind fun d => M.ret (.dat d))).bind fun d => M.ret (.dat d)) ((M.ret (.int 1)).bind fun d => M.ret (.dat d))).bind fz).bind fun d => M.ret (.dat d)) (mNil))))).bind fun d => M.ret (.dat d)) (mNil))).bind fun d => M.ret (.dat d))).bind fz).bind fun d => M.ret (.dat d)) (mCons ((mFix tupG (mCons ((mFix tupG (mCons ((M.ret (.str "ash")).bind fun d => M.ret (.dat d)) (mCons (((M.ret (.int 1)).bind negD).bind fun d => M.ret (.dat d)) (mCons ((M.ret (.int 0)).bind fun d => M.ret (.dat d)) (mNil))))).bind fun d => M.ret (.dat d)) (mNil))).bind fun d => M.ret (.dat d)) (mCons ((mFix tupG (mCons ((mFix tupG (mCons ((M.ret (.str "ash")).bind fun d => M.ret (.dat d)) (mCons ((M.ret (.int 0)).bind fun d => M.ret (.dat d)) (mCons ((M.ret (.bool true)).bind fun d => M.ret (.dat d)) (mNil))))).bind fun d => M.ret (.dat d)) (mNil))).bind fun d => M.ret (.dat d)) (mNil))))).bind fz).bind fun d => M.ret (.dat d)))) (sSeq (sSet 7 (m2 aAdd (mSlot 7) (((mFix lstG (mCons ((M.ret (.str "a1")).bind fun d => M.ret (.dat d)) (mCons ((M.ret (.str "a-b")).bind fun d => M.ret (.dat d)) (mCons ((M.ret (.str "a b")).bind fun d => M.ret (.dat d)) (mCons ((M.ret (.str "{")).bind fun d => M.ret (.dat d)) (mCons ((M.ret (.str "abcdefgh")).bind fun d => M.ret (.dat d)) (mCons ((mFix tupG (mCons ((M.ret (.int 0)).bind fun d => M.ret (.dat d)) (mCons (((M.ret (.int 1)).bind negD).bind fun d => M.ret (.dat d)) (mCons ((mFix tupG (mNil)).bind fun d => M.ret (.dat d)) (mNil))))).bind fun d => M.ret (.dat d)) (mNil)))))))).bind fz).bind fun d => M.ret (.dat d)))) (sSeq (sFor ((mFix tupG (mCons ((mFix tupG (mCons ((M.ret (.int 2)).bind fun d => M.ret (.dat d)) (mCons ((M.ret (.str "a1")).bind fun d => M.ret (.dat d)) (mNil)))).bind fun d => M.ret (.dat d)) (mCons ((mFix tupG (mCons ((M.ret (.int 3)).bind fun d => M.ret (.dat d)) (mCons ((M.ret (.str "a b")).bind fun d => M.ret (.dat d)) (mNil)))).bind fun d => M.ret (.dat d)) (mCons ((mFix tupG (mCons ((M.ret (.int 2)).bind fun d => M.ret (.dat d)) (mCons ((M.ret (.str "{")).bind fun d => M.ret (.dat d)) (mNil)))).bind fun d => M.ret (.dat d)) (mCons ((mFix tupG (mCons ((M.ret (.int 3)).bind fun d => M.ret (.dat d)) (mCons ((M.ret (.str "a.")).bind fun d => M.ret (.dat d)) (mNil)))).bind fun d => M.ret (.dat d)) (mCons ((mFix tupG (mCons ((M.ret (.int 5)).bind fun d => M.ret (.dat d)) (mCons (((M.ret (.int 1)).bind negD).bind fun d => M.ret (.dat d)) (mNil)))).bind fun d => M.ret (.dat d)) (mCons ((mFix tupG (mCons ((M.ret (.int 1)).bind fun d => M.ret (.dat d)) (mCons ((mFix tupG (mCons (((M.ret (.int 1)).bind negD).bind fun d => M.ret (.dat d)) (mCons ((M.ret (.int 0)).bind fun d => M.ret (.dat d)) (mNil)))).bind fun d => M.ret (.dat d)) (mNil)))).bind fun d => M.ret (.dat d)) (mNil)))))))).bind seqItems) (tTup [tName 8, tName 9]) (m_things_b5)) (sRet (mTake 7))))))))))))
def fn_things : Fn := fnM 9 [true, false, false] m_things
-- _law_great of k01
def m_great_e1 : M PyData := (m2 aAdd ((m2 gIx (mSlot 0) ((m2 gFloorW (mSlot 4) ((M.ret (.int 20)).bind fun d => M.ret (.dat d))).bind fun d => M.ret (.dat d))).bind fun d => M.ret (.dat d)) ((m2 gIx (mSlot 0) ((m2 gMod (mSlot 4) ((M.ret (.int 20)).bind fun d => M.ret (.dat d))).bind fun d => M.ret (.dat d))).bind fun d => M.ret (.dat d))).bind fz
def m_great_e2 : M PyData := mFix tupG (mCons ((mFix tupG (mCons ((mFix tupG (mCons ((M.ret (.str "a")).bind fun d => M.ret (.dat d)) (mCons ((M.ret (.str "a")).bind fun d => M.ret (.dat d)) (mNil)))).bind fun d => M.ret (.dat d)) (mCons ((mFix tupG (mCons ((M.ret (.str "a")).bind fun d => M.ret (.dat d)) (mCons (((m2 aAdd ((M.ret (.str "b")).bind fun d => M.ret (.dat d)) (mSlot 5)).bind fz).bind fun d => M.ret (.dat d)) (mNil)))).bind fun d => M.ret (.dat d)) (mNil)))).bind fun d => M.ret (.dat d)) (mCons ((mFix tupG (mCons ((mName 4).bind fun d => M.ret (.dat d)) (mCons ((M.ret (.int 0)).bind fun d => M.ret (.dat d)) (mNil)))).bind fun d => M.ret (.dat d)) (mCons ((mName 5).bind fun d => M.ret (.dat d)) (mCons ((M.ret (.str "a")).bind fun d => M.ret (.dat d)) (mCons ((M.ret (.int 0)).bind fun d => M.ret (.dat d)) (mCons ((M.ret (.int 9)).bind fun d => M.ret (.dat d)) (mCons ((M.ret (.bool true)).bind fun d => M.ret (.dat d)) (mNil))))))))
def m_great_e3 : M PyData := mFix tupG (mCons ((mName 5).bind fun d => M.ret (.dat d)) (mCons ((mName 4).bind fun d => M.ret (.dat d)) (mCons ((m2 gPow ((M.ret (.int 10)).bind fun d => M.ret (.dat d)) ((M.ret (.int 30)).bind fun d => M.ret (.dat d))).bind fun d => M.ret (.dat d)) (mNil))))
def m_great : M Out := sSeq (sSet 0 ((M.ret (.str "abcdefghijklmnopqrst")).bind fun d => M.ret (.sh d))) (sSeq (sSet 1 (mL gSorted (mCons (((mComp (mL rng1 (mCons ((M.ret (.int 60)).bind fun d => M.ret (.dat d)) (mNil))) (tName 4) (M.ret true) (m_great_e1) [4]).bind fz).bind fun d => M.ret (.dat d)) (mNil)))) (sSeq (sSet 2 (mL gTuple (mCons (((mComp ((mName 1).bind fun d => M.lift (enumD [d])) (tTup [tName 4, tName 5]) (M.ret true) (m_great_e2) [4, 5]).bind fz).bind fun d => M.ret (.dat d)) (mNil)))) (sSeq (sSet 3 (mL gTuple (mCons (((mComp ((mName 1).bind fun d => M.lift (enumD [d])) (tTup [tName 4, tName 5]) (M.ret true) (m_great_e3) [4, 5]).bind fz).bind fun d => M.ret (.dat d)) (mNil)))) (sRet (mFix lstG (mCons ((mFix tupG (mCons ((M.ret (.int 0)).bind fun d => M.ret (.dat d)) (mCons ((M.ret (.int 0)).bind fun d => M.ret (.dat d)) (mCons ((mName 2).bind fun d => M.ret (.dat d)) (mNil))))).bind fun d => M.ret (.dat d)) (mCons ((mFix tupG (mCons ((M.ret (.int 0)).bind fun d => M.ret (.dat d)) (mCons ((M.ret (.int 0)).bind fun d => M.ret (.dat d)) (mCons (((m2 aAdd (((mSl (mSlot 2) (M.ret none) (((M.ret (.int 2)).bind negD).bind fun d => (asInt d).bind fun i => M.ret (some i))).bind fz).bind fun d => M.ret (.dat d)) (((m1 (gRevTo 2) (mSlot 2)).bind fz).bind fun d => M.ret (.dat d))).bind fz).bind fun d => M.ret (.dat d)) (mNil))))).bind fun d => M.ret (.dat d)) (mCons ((mName 3).bind fun d => M.ret (.dat d)) (mCons (((m2 aAdd (((mSl (mSlot 3) (M.ret none) (((M.ret (.int 2)).bind negD).bind fun d => (asInt d).bind fun i => M.ret (some i))).bind fz).bind fun d => M.ret (.dat d)) (((m1 (gRevTo 2) (mSlot 3)).bind fz).bind fun d => M.ret (.dat d))).bind fz).bind fun d => M.ret (.dat d)) (mNil))))))))))
def fn_great : Fn := fnM 6 [] m_great
-- law of k01
def m_law_k01_b1 : M Out := sSeq (sSet 6 (mCallO (fn_bend 7) (mCons (mSlot 1) (mCons ((m2 gIx (mSlot 4) (((mCallO fn_take (mCons (mSlot 1) (mCons ((M.ret (.int 6)).bind fun d => M.ret (.dat d)) (mNil)))).bind fz).bind fun d => M.ret (.dat d))).bind fun d => M.ret (.dat d)) (mCons ((M.ret (.int 5)).bind fun d => M.ret (.dat d)) (mNil)))))) (sSet 4 (m2 aAdd (mSlot 4) (((mFix lstG (mCons ((mName 6).bind fun d => M.ret (.dat d)) (mCons (((mCallO (fn_bend 7) (mCons (mSlot 1) (mCons ((mName 6).bind fun d => M.ret (.dat d)) (mCons ((M.ret (.int 5)).bind fun d => M.ret (.dat d)) (mNil))))).bind fz).bind fun d => M.ret (.dat d)) (mCons (((mCallO fn_odd (mCons (mSlot 1) (mNil))).bind fz).bind fun d => M.ret (.dat d)) (mNil))))).bind fz).bind fun d => M.ret (.dat d))))
def m_law_k01_b2 : M Out := sSeq (sSet 8 (mL gRepr (mCons (mSlot 7) (mNil)))) (sSeq (sSet 9 (mFix lstG (mCons (((mCall fn_word (mCons ((mName 7).bind fun d => M.ret (.dat d)) (mNil))).bind fz).bind fun d => M.ret (.dat d)) (mCons (((mCall fn_hand (mCons ((mName 7).bind fun d => M.ret (.dat d)) (mNil))).bind fz).bind fun d => M.ret (.dat d)) (mCons (((mCall fn_pair (mCons ((mName 7).bind fun d => M.ret (.dat d)) (mNil))).bind fz).bind fun d => M.ret (.dat d)) (mCons (((mCall fn_own_is_row (mCons ((mName 7).bind fun d => M.ret (.dat d)) (mNil))).bind fz).bind fun d => M.ret (.dat d)) (mCons (((mCall fn_is_lot (mCons ((mName 7).bind fun d => M.ret (.dat d)) (mNil))).bind fz).bind fun d => M.ret (.dat d)) (mNil)))))))) (sSeq (sSet 10 (mFix lstG (mCons (((mCall fn_is_word (mCons ((mName 7).bind fun d => M.ret (.dat d)) (mNil))).bind fz).bind fun d => M.ret (.dat d)) (mCons (((mCall fn_is_hand (mCons ((mName 7).bind fun d => M.ret (.dat d)) (mNil))).bind fz).bind fun d => M.ret (.dat d)) (mCons (((mCall fn_is_pair (mCons ((mName 7).bind fun d => M.ret (.dat d)) (mNil))).bind fz).bind fun d => M.ret (.dat d)) (mCons (((mCall fn_is_row (mCons ((mName 7).bind fun d => M.ret (.dat d)) (mNil))).bind fz).bind fun d => M.ret (.dat d)) (mCons (((mCall fn_is_rights (mCons ((mName 7).bind fun d => M.ret (.dat d)) (mNil))).bind fz).bind fun d => M.ret (.dat d)) (mNil)))))))) (sIf (mOr ((m2 gNe (((mL gRepr (mCons (((m2 aAdd (mSlot 10) (((mFix lstG (mCons (((mCall fn_is_heard (mCons ((mName 7).bind fun d => M.ret (.dat d)) (mNil))).bind fz).bind fun d => M.ret (.dat d)) (mNil))).bind fz).bind fun d => M.ret (.dat d))).bind fz).bind fun d => M.ret (.dat d)) (mNil))).bind fz).bind fun d => M.ret (.dat d)) (((mL gRepr (mCons (((m2 aAdd (mSlot 9) (((mFix lstG (mCons (((mCall fn_is_news (mCons ((mName 7).bind fun d => M.ret (.dat d)) (mNil))).bind fz).bind fun d => M.ret (.dat d)) (mNil))).bind fz).bind fun d => M.ret (.dat d))).bind fz).bind fun d => M.ret (.dat d)) (mNil))).bind fz).bind fun d => M.ret (.dat d))).bind asBool) ((m2 gNe (((mL gRepr (mCons (mSlot 7) (mNil))).bind fz).bind fun d => M.ret (.dat d)) (mSlot 8)).bind asBool)) (sRet ((M.ret (.bool false)).bind fun d => M.ret (.sh d))) (sNext))))
def m_law_k01 : M Out := sSeq (sSet 1 (mCall fn_tap (mCons (mSlot 0) (mNil)))) (sSeq (sSet 2 (mCallO fn_towns (mCons (mSlot 1) (mCons ((M.ret (.int 2)).bind fun d => M.ret (.dat d)) (mNil))))) (sSeq (sSet 3 (mCall fn_twos (mCons (((mCallO fn_seats (mCons (mSlot 1) (mCons ((mName 2).bind fun d => M.ret (.dat d)) (mCons ((M.ret (.int 4)).bind fun d => M.ret (.dat d)) (mNil))))).bind fz).bind fun d => M.ret (.dat d)) (mNil)))) (sSeq (sSet 4 (m2 aAdd (((mCallO fn_things (mCons (mSlot 1) (mCons ((mName 2).bind fun d => M.ret (.dat d)) (mCons ((mName 3).bind fun d => M.ret (.dat d)) (mNil))))).bind fz).bind fun d => M.ret (.dat d)) (((mCall fn_great (mPick [] (mApp (mNil) (mNil)))).bind fz).bind fun d => M.ret (.dat d)))) (sSeq (sFor (mL rng1 (mCons ((M.ret (.int 12)).bind fun d => M.ret (.dat d)) (mNil))) (tName 5) (m_law_k01_b1)) (sSeq (sFor ((mName 4).bind seqItems) (tName 7) (m_law_k01_b2)) (sRet ((M.ret (.bool true)).bind fun d => M.ret (.sh d))))))))
def fn_law_k01 : Fn := fnM 10 [false] m_law_k01
end Lw
namespace Dv
open PySem L2 PySem.W PySem.SeqAt Eg
def top (i : Nat) : Stmt := PySem.Challenge.pw_strangerbench_k01_kinds.main.body.getD i (.Pass ⟨0, 0, 0, 0⟩)
abbrev st_is_count : Stmt := top 1
abbrev st_is_tuple_of : Stmt := top 2
abbrev st_rises : Stmt := top 3
abbrev st_is_word : Stmt := top 4
abbrev st_is_hand : Stmt := top 5
abbrev st_is_pair : Stmt := top 6
abbrev st_is_stamp : Stmt := top 7
abbrev st_is_row : Stmt := top 8
abbrev st_is_rights : Stmt := top 9
abbrev st_is_told_rise : Stmt := top 10
abbrev st_is_heard : Stmt := top 11
abbrev st_tap : Stmt := top 13
abbrev st_take : Stmt := top 14
abbrev st_odd : Stmt := top 15
abbrev st_bend : Stmt := top 16
abbrev st_towns : Stmt := top 17
abbrev st_seats : Stmt := top 18
abbrev st_twos : Stmt := top 19
abbrev st_row : Stmt := top 20
abbrev st_lot : Stmt := top 21
abbrev st_news : Stmt := top 22
abbrev st_number : Stmt := top 23
abbrev st_word : Stmt := top 24
abbrev st_hand : Stmt := top 25
abbrev st_pair : Stmt := top 26
abbrev st_own_is_row : Stmt := top 27
abbrev st_rise : Stmt := top 28
abbrev st_is_lot : Stmt := top 29
abbrev st_is_triple : Stmt := top 30
abbrev st_is_news : Stmt := top 31
abbrev st_things : Stmt := top 32
abbrev st_great : Stmt := top 33
abbrev st_law : Stmt := top 34
theorem sc_is_count : FnScope ["thing"] ["thing"] (defScope st_is_count) := ⟨rfl, rfl, rfl, by decide +kernel, rfl, by decide +kernel, by decide +kernel⟩
theorem s_is_count_thing : (defScope st_is_count).names.lookup ("thing" : Str) = some NameKind.local := by decide +kernel
theorem s_is_count_type : (defScope st_is_count).names.lookup ("type" : Str) = some NameKind.globalImplicit := by decide +kernel
theorem s_is_count_int : (defScope st_is_count).names.lookup ("int" : Str) = some NameKind.globalImplicit := by decide +kernel
theorem sc_is_tuple_of : FnScope ["thing", "many"] ["thing", "many"] (defScope st_is_tuple_of) := ⟨rfl, rfl, rfl, by decide +kernel, rfl, by decide +kernel, by decide +kernel⟩
theorem s_is_tuple_of_thing : (defScope st_is_tuple_of).names.lookup ("thing" : Str) = some NameKind.local := by decide +kernel
theorem s_is_tuple_of_type : (defScope st_is_tuple_of).names.lookup ("type" : Str) = some NameKind.globalImplicit := by decide +kernel
theorem s_is_tuple_of_tuple : (defScope st_is_tuple_of).names.lookup ("tuple" : Str) = some NameKind.globalImplicit := by decide +kernel
theorem s_is_tuple_of_len : (defScope st_is_tuple_of).names.lookup ("len" : Str) = some NameKind.globalImplicit := by decide +kernel
theorem s_is_tuple_of_many : (defScope st_is_tuple_of).names.lookup ("many" : Str) = some NameKind.local := by decide +kernel
theorem sc_rises : FnScope ["keys", "one", "other"] ["keys"] (defScope st_rises) := ⟨rfl, rfl, rfl, by decide +kernel, rfl, by decide +kernel, by decide +kernel⟩
theorem s_rises_keys : (defScope st_rises).names.lookup ("keys" : Str) = some NameKind.local := by decide +kernel
theorem s_rises_zip : (defScope st_rises).names.lookup ("zip" : Str) = some NameKind.globalImplicit := by decide +kernel
theorem s_rises_all : (defScope st_rises).names.lookup ("all" : Str) = some NameKind.globalImplicit := by decide +kernel
theorem sc_is_word : FnScope ["thing", "sign"] ["thing"] (defScope st_is_word) := ⟨rfl, rfl, rfl, by decide +kernel, rfl, by decide +kernel, by decide +kernel⟩
theorem s_is_word_thing : (defScope st_is_word).names.lookup ("thing" : Str) = some NameKind.local := by decide +kernel
theorem s_is_word_type : (defScope st_is_word).names.lookup ("type" : Str) = some NameKind.globalImplicit := by decide +kernel
theorem s_is_word_str : (defScope st_is_word).names.lookup ("str" : Str) = some NameKind.globalImplicit := by decide +kernel
theorem s_is_word_len : (defScope st_is_word).names.lookup ("len" : Str) = some NameKind.globalImplicit := by decide +kernel
theorem s_is_word_all : (defScope st_is_word).names.lookup ("all" : Str) = some NameKind.globalImplicit := by decide +kernel
theorem sc_is_hand : FnScope ["thing"] ["thing"] (defScope st_is_hand) := ⟨rfl, rfl, rfl, by decide +kernel, rfl, by decide +kernel, by decide +kernel⟩
theorem s_is_hand_thing : (defScope st_is_hand).names.lookup ("thing" : Str) = some NameKind.local := by decide +kernel
theorem s_is_hand_is_tuple_of : (defScope st_is_hand).names.lookup ("is_tuple_of" : Str) = some NameKind.globalImplicit := by decide +kernel
theorem s_is_hand_is_word : (defScope st_is_hand).names.lookup ("is_word" : Str) = some NameKind.globalImplicit := by decide +kernel
theorem sc_is_pair : FnScope ["thing"] ["thing"] (defScope st_is_pair) := ⟨rfl, rfl, rfl, by decide +kernel, rfl, by decide +kernel, by decide +kernel⟩
theorem s_is_pair_thing : (defScope st_is_pair).names.lookup ("thing" : Str) = some NameKind.local := by decide +kernel
theorem s_is_pair_is_tuple_of : (defScope st_is_pair).names.lookup ("is_tuple_of" : Str) = some NameKind.globalImplicit := by decide +kernel
theorem s_is_pair_is_hand : (defScope st_is_pair).names.lookup ("is_hand" : Str) = some NameKind.globalImplicit := by decide +kernel
theorem sc_is_stamp : FnScope ["thing"] ["thing"] (defScope st_is_stamp) := ⟨rfl, rfl, rfl, by decide +kernel, rfl, by decide +kernel, by decide +kernel⟩
theorem s_is_stamp_thing : (defScope st_is_stamp).names.lookup ("thing" : Str) = some NameKind.local := by decide +kernel
theorem s_is_stamp_is_tuple_of : (defScope st_is_stamp).names.lookup ("is_tuple_of" : Str) = some NameKind.globalImplicit := by decide +kernel
theorem s_is_stamp_is_count : (defScope st_is_stamp).names.lookup ("is_count" : Str) = some NameKind.globalImplicit := by decide +kernel
theorem sc_is_row : FnScope ["thing", "pair", "stamp", "place", "giver", "rise", "free", "here"] ["thing"] (defScope st_is_row) := ⟨rfl, rfl, rfl, by decide +kernel, rfl, by decide +kernel, by decide +kernel⟩
theorem s_is_row_thing : (defScope st_is_row).names.lookup ("thing" : Str) = some NameKind.local := by decide +kernel
theorem s_is_row_is_tuple_of : (defScope st_is_row).names.lookup ("is_tuple_of" : Str) = some NameKind.globalImplicit := by decide +kernel
theorem s_is_row_pair : (defScope st_is_row).names.lookup ("pair" : Str) = some NameKind.local := by decide +kernel
theorem s_is_row_stamp : (defScope st_is_row).names.lookup ("stamp" : Str) = some NameKind.local := by decide +kernel
theorem s_is_row_place : (defScope st_is_row).names.lookup ("place" : Str) = some NameKind.local := by decide +kernel
theorem s_is_row_giver : (defScope st_is_row).names.lookup ("giver" : Str) = some NameKind.local := by decide +kernel
theorem s_is_row_rise : (defScope st_is_row).names.lookup ("rise" : Str) = some NameKind.local := by decide +kernel
theorem s_is_row_free : (defScope st_is_row).names.lookup ("free" : Str) = some NameKind.local := by decide +kernel
theorem s_is_row_here : (defScope st_is_row).names.lookup ("here" : Str) = some NameKind.local := by decide +kernel
theorem s_is_row_is_pair : (defScope st_is_row).names.lookup ("is_pair" : Str) = some NameKind.globalImplicit := by decide +kernel
theorem s_is_row_is_stamp : (defScope st_is_row).names.lookup ("is_stamp" : Str) = some NameKind.globalImplicit := by decide +kernel
theorem s_is_row_is_word : (defScope st_is_row).names.lookup ("is_word" : Str) = some NameKind.globalImplicit := by decide +kernel
theorem s_is_row_is_count : (defScope st_is_row).names.lookup ("is_count" : Str) = some NameKind.globalImplicit := by decide +kernel
theorem s_is_row_type : (defScope st_is_row).names.lookup ("type" : Str) = some NameKind.globalImplicit := by decide +kernel
theorem s_is_row_bool : (defScope st_is_row).names.lookup ("bool" : Str) = some NameKind.globalImplicit := by decide +kernel
theorem sc_is_rights : FnScope ["thing", "turn", "floor", "rows", "row"] ["thing"] (defScope st_is_rights) := ⟨rfl, rfl, rfl, by decide +kernel, rfl, by decide +kernel, by decide +kernel⟩
theorem s_is_rights_thing : (defScope st_is_rights).names.lookup ("thing" : Str) = some NameKind.local := by decide +kernel
theorem s_is_rights_is_tuple_of : (defScope st_is_rights).names.lookup ("is_tuple_of" : Str) = some NameKind.globalImplicit := by decide +kernel
theorem s_is_rights_turn : (defScope st_is_rights).names.lookup ("turn" : Str) = some NameKind.local := by decide +kernel
theorem s_is_rights_floor : (defScope st_is_rights).names.lookup ("floor" : Str) = some NameKind.local := by decide +kernel
theorem s_is_rights_rows : (defScope st_is_rights).names.lookup ("rows" : Str) = some NameKind.local := by decide +kernel
theorem s_is_rights_is_count : (defScope st_is_rights).names.lookup ("is_count" : Str) = some NameKind.globalImplicit := by decide +kernel
theorem s_is_rights_type : (defScope st_is_rights).names.lookup ("type" : Str) = some NameKind.globalImplicit := by decide +kernel
theorem s_is_rights_tuple : (defScope st_is_rights).names.lookup ("tuple" : Str) = some NameKind.globalImplicit := by decide +kernel
theorem s_is_rights_all : (defScope st_is_rights).names.lookup ("all" : Str) = some NameKind.globalImplicit := by decide +kernel
theorem s_is_rights_rises : (defScope st_is_rights).names.lookup ("rises" : Str) = some NameKind.globalImplicit := by decide +kernel
theorem sc_is_told_rise : FnScope ["thing"] ["thing"] (defScope st_is_told_rise) := ⟨rfl, rfl, rfl, by decide +kernel, rfl, by decide +kernel, by decide +kernel⟩
theorem s_is_told_rise_thing : (defScope st_is_told_rise).names.lookup ("thing" : Str) = some NameKind.local := by decide +kernel
theorem s_is_told_rise_is_tuple_of : (defScope st_is_told_rise).names.lookup ("is_tuple_of" : Str) = some NameKind.globalImplicit := by decide +kernel
theorem s_is_told_rise_is_word : (defScope st_is_told_rise).names.lookup ("is_word" : Str) = some NameKind.globalImplicit := by decide +kernel
theorem s_is_told_rise_is_count : (defScope st_is_told_rise).names.lookup ("is_count" : Str) = some NameKind.globalImplicit := by decide +kernel
theorem sc_is_heard : FnScope ["thing", "told"] ["thing"] (defScope st_is_heard) := ⟨rfl, rfl, rfl, by decide +kernel, rfl, by decide +kernel, by decide +kernel⟩
theorem s_is_heard_thing : (defScope st_is_heard).names.lookup ("thing" : Str) = some NameKind.local := by decide +kernel
theorem s_is_heard_type : (defScope st_is_heard).names.lookup ("type" : Str) = some NameKind.globalImplicit := by decide +kernel
theorem s_is_heard_tuple : (defScope st_is_heard).names.lookup ("tuple" : Str) = some NameKind.globalImplicit := by decide +kernel
theorem s_is_heard_all : (defScope st_is_heard).names.lookup ("all" : Str) = some NameKind.globalImplicit := by decide +kernel
theorem s_is_heard_rises : (defScope st_is_heard).names.lookup ("rises" : Str) = some NameKind.globalImplicit := by decide +kernel
theorem sc_tap : FnScope ["script"] ["script"] (defScope st_tap) := ⟨rfl, rfl, rfl, by decide +kernel, rfl, by decide +kernel, by decide +kernel⟩
theorem s_tap_script : (defScope st_tap).names.lookup ("script" : Str) = some NameKind.local := by decide +kernel
theorem s_tap_list : (defScope st_tap).names.lookup ("list" : Str) = some NameKind.globalImplicit := by decide +kernel
theorem sc_take : FnScope ["tap", "many", "calls", "figure", "spot", "cells", "cell", "once"] ["tap", "many"] (defScope st_take) := ⟨rfl, rfl, rfl, by decide +kernel, rfl, by decide +kernel, by decide +kernel⟩
theorem s_take_tap : (defScope st_take).names.lookup ("tap" : Str) = some NameKind.local := by decide +kernel
theorem s_take_calls : (defScope st_take).names.lookup ("calls" : Str) = some NameKind.local := by decide +kernel
theorem s_take_many : (defScope st_take).names.lookup ("many" : Str) = some NameKind.local := by decide +kernel
theorem s_take_figure : (defScope st_take).names.lookup ("figure" : Str) = some NameKind.local := by decide +kernel
theorem s_take_spot : (defScope st_take).names.lookup ("spot" : Str) = some NameKind.local := by decide +kernel
theorem s_take_cells : (defScope st_take).names.lookup ("cells" : Str) = some NameKind.local := by decide +kernel
theorem s_take_len : (defScope st_take).names.lookup ("len" : Str) = some NameKind.globalImplicit := by decide +kernel
theorem s_take_cell : (defScope st_take).names.lookup ("cell" : Str) = some NameKind.local := by decide +kernel
theorem s_take_once : (defScope st_take).names.lookup ("once" : Str) = some NameKind.local := by decide +kernel
theorem sc_odd : FnScope ["tap", "some"] ["tap"] (defScope st_odd) := ⟨rfl, rfl, rfl, by decide +kernel, rfl, by decide +kernel, by decide +kernel⟩
theorem s_odd_some : (defScope st_odd).names.lookup ("some" : Str) = some NameKind.local := by decide +kernel
theorem s_odd_tap : (defScope st_odd).names.lookup ("tap" : Str) = some NameKind.local := by decide +kernel
theorem s_odd__law_take : (defScope st_odd).names.lookup ("_law_take" : Str) = some NameKind.globalImplicit := by decide +kernel
theorem sc_bend : FnScope ["tap", "thing", "deep", "at", "way"] ["tap", "thing", "deep"] (defScope st_bend) := ⟨rfl, rfl, rfl, by decide +kernel, rfl, by decide +kernel, by decide +kernel⟩
theorem s_bend_thing : (defScope st_bend).names.lookup ("thing" : Str) = some NameKind.local := by decide +kernel
theorem s_bend_isinstance : (defScope st_bend).names.lookup ("isinstance" : Str) = some NameKind.globalImplicit := by decide +kernel
theorem s_bend_tuple : (defScope st_bend).names.lookup ("tuple" : Str) = some NameKind.globalImplicit := by decide +kernel
theorem s_bend_deep : (defScope st_bend).names.lookup ("deep" : Str) = some NameKind.local := by decide +kernel
theorem s_bend_tap : (defScope st_bend).names.lookup ("tap" : Str) = some NameKind.local := by decide +kernel
theorem s_bend__law_take : (defScope st_bend).names.lookup ("_law_take" : Str) = some NameKind.globalImplicit := by decide +kernel
theorem s_bend_len : (defScope st_bend).names.lookup ("len" : Str) = some NameKind.globalImplicit := by decide +kernel
theorem s_bend_at : (defScope st_bend).names.lookup ("at" : Str) = some NameKind.local := by decide +kernel
theorem s_bend__law_bend : (defScope st_bend).names.lookup ("_law_bend" : Str) = some NameKind.globalImplicit := by decide +kernel
theorem s_bend_way : (defScope st_bend).names.lookup ("way" : Str) = some NameKind.local := by decide +kernel
theorem s_bend__law_odd : (defScope st_bend).names.lookup ("_law_odd" : Str) = some NameKind.globalImplicit := by decide +kernel
theorem s_bend_list : (defScope st_bend).names.lookup ("list" : Str) = some NameKind.globalImplicit := by decide +kernel
theorem s_bend_int : (defScope st_bend).names.lookup ("int" : Str) = some NameKind.globalImplicit := by decide +kernel
theorem s_bend_str : (defScope st_bend).names.lookup ("str" : Str) = some NameKind.globalImplicit := by decide +kernel
theorem sc_towns : FnScope ["tap", "least", "pool", "many"] ["tap", "least"] (defScope st_towns) := ⟨rfl, rfl, rfl, by decide +kernel, rfl, by decide +kernel, by decide +kernel⟩
theorem s_towns_pool : (defScope st_towns).names.lookup ("pool" : Str) = some NameKind.local := by decide +kernel
theorem s_towns_least : (defScope st_towns).names.lookup ("least" : Str) = some NameKind.local := by decide +kernel
theorem s_towns_tap : (defScope st_towns).names.lookup ("tap" : Str) = some NameKind.local := by decide +kernel
theorem s_towns__law_take : (defScope st_towns).names.lookup ("_law_take" : Str) = some NameKind.globalImplicit := by decide +kernel
theorem s_towns_min : (defScope st_towns).names.lookup ("min" : Str) = some NameKind.globalImplicit := by decide +kernel
theorem s_towns_many : (defScope st_towns).names.lookup ("many" : Str) = some NameKind.local := by decide +kernel
theorem s_towns_len : (defScope st_towns).names.lookup ("len" : Str) = some NameKind.globalImplicit := by decide +kernel
theorem sc_seats : FnScope ["tap", "towns", "many", "pool", "found", "place", "k", "word"] ["tap", "towns", "many"] (defScope st_seats) := ⟨rfl, rfl, rfl, by decide +kernel, rfl, by decide +kernel, by decide +kernel⟩
theorem s_seats_pool : (defScope st_seats).names.lookup ("pool" : Str) = some NameKind.local := by decide +kernel
theorem s_seats_found : (defScope st_seats).names.lookup ("found" : Str) = some NameKind.local := by decide +kernel
theorem s_seats_towns : (defScope st_seats).names.lookup ("towns" : Str) = some NameKind.local := by decide +kernel
theorem s_seats_place : (defScope st_seats).names.lookup ("place" : Str) = some NameKind.cell := by decide +kernel
theorem s_seats_len : (defScope st_seats).names.lookup ("len" : Str) = some NameKind.globalImplicit := by decide +kernel
theorem s_seats_many : (defScope st_seats).names.lookup ("many" : Str) = some NameKind.local := by decide +kernel
theorem s_seats_min : (defScope st_seats).names.lookup ("min" : Str) = some NameKind.globalImplicit := by decide +kernel
theorem s_seats_range : (defScope st_seats).names.lookup ("range" : Str) = some NameKind.globalImplicit := by decide +kernel
theorem s_seats_k : (defScope st_seats).names.lookup ("k" : Str) = some NameKind.local := by decide +kernel
theorem s_seats_tap : (defScope st_seats).names.lookup ("tap" : Str) = some NameKind.local := by decide +kernel
theorem s_seats__law_take : (defScope st_seats).names.lookup ("_law_take" : Str) = some NameKind.globalImplicit := by decide +kernel
theorem sc_twos : FnScope ["people", "found", "k", "other"] ["people"] (defScope st_twos) := ⟨rfl, rfl, rfl, by decide +kernel, rfl, by decide +kernel, by decide +kernel⟩
theorem s_twos_found : (defScope st_twos).names.lookup ("found" : Str) = some NameKind.local := by decide +kernel
theorem s_twos_people : (defScope st_twos).names.lookup ("people" : Str) = some NameKind.cell := by decide +kernel
theorem s_twos_len : (defScope st_twos).names.lookup ("len" : Str) = some NameKind.globalImplicit := by decide +kernel
theorem s_twos_range : (defScope st_twos).names.lookup ("range" : Str) = some NameKind.globalImplicit := by decide +kernel
theorem s_twos_k : (defScope st_twos).names.lookup ("k" : Str) = some NameKind.cell := by decide +kernel
theorem s_twos_sorted : (defScope st_twos).names.lookup ("sorted" : Str) = some NameKind.globalImplicit := by decide +kernel
theorem sc_row : FnScope ["tap", "pair", "towns", "stamp", "place", "giver"] ["tap", "pair", "towns"] (defScope st_row) := ⟨rfl, rfl, rfl, by decide +kernel, rfl, by decide +kernel, by decide +kernel⟩
theorem s_row_tap : (defScope st_row).names.lookup ("tap" : Str) = some NameKind.local := by decide +kernel
theorem s_row__law_take : (defScope st_row).names.lookup ("_law_take" : Str) = some NameKind.globalImplicit := by decide +kernel
theorem s_row_stamp : (defScope st_row).names.lookup ("stamp" : Str) = some NameKind.local := by decide +kernel
theorem s_row_towns : (defScope st_row).names.lookup ("towns" : Str) = some NameKind.local := by decide +kernel
theorem s_row_len : (defScope st_row).names.lookup ("len" : Str) = some NameKind.globalImplicit := by decide +kernel
theorem s_row_place : (defScope st_row).names.lookup ("place" : Str) = some NameKind.local := by decide +kernel
theorem s_row_giver : (defScope st_row).names.lookup ("giver" : Str) = some NameKind.local := by decide +kernel
theorem s_row_pair : (defScope st_row).names.lookup ("pair" : Str) = some NameKind.local := by decide +kernel
theorem sc_lot : FnScope ["tap", "pairs", "towns", "rows", "pair"] ["tap", "pairs", "towns"] (defScope st_lot) := ⟨rfl, rfl, rfl, by decide +kernel, rfl, by decide +kernel, by decide +kernel⟩
theorem s_lot_pairs : (defScope st_lot).names.lookup ("pairs" : Str) = some NameKind.local := by decide +kernel
theorem s_lot_tuple : (defScope st_lot).names.lookup ("tuple" : Str) = some NameKind.globalImplicit := by decide +kernel
theorem s_lot_rows : (defScope st_lot).names.lookup ("rows" : Str) = some NameKind.local := by decide +kernel
theorem s_lot_tap : (defScope st_lot).names.lookup ("tap" : Str) = some NameKind.cell := by decide +kernel
theorem s_lot__law_take : (defScope st_lot).names.lookup ("_law_take" : Str) = some NameKind.globalImplicit := by decide +kernel
theorem sc_news : FnScope ["tap", "towns", "found", "place", "many"] ["tap", "towns"] (defScope st_news) := ⟨rfl, rfl, rfl, by decide +kernel, rfl, by decide +kernel, by decide +kernel⟩
theorem s_news_found : (defScope st_news).names.lookup ("found" : Str) = some NameKind.local := by decide +kernel
theorem s_news_towns : (defScope st_news).names.lookup ("towns" : Str) = some NameKind.local := by decide +kernel
theorem s_news_place : (defScope st_news).names.lookup ("place" : Str) = some NameKind.local := by decide +kernel
theorem s_news_tap : (defScope st_news).names.lookup ("tap" : Str) = some NameKind.local := by decide +kernel
theorem s_news__law_take : (defScope st_news).names.lookup ("_law_take" : Str) = some NameKind.globalImplicit := by decide +kernel
theorem s_news_many : (defScope st_news).names.lookup ("many" : Str) = some NameKind.local := by decide +kernel
theorem s_news_int : (defScope st_news).names.lookup ("int" : Str) = some NameKind.globalImplicit := by decide +kernel
theorem s_news_tuple : (defScope st_news).names.lookup ("tuple" : Str) = some NameKind.globalImplicit := by decide +kernel
theorem sc_number : FnScope ["thing"] ["thing"] (defScope st_number) := ⟨rfl, rfl, rfl, by decide +kernel, rfl, by decide +kernel, by decide +kernel⟩
theorem s_number_thing : (defScope st_number).names.lookup ("thing" : Str) = some NameKind.local := by decide +kernel
theorem s_number_isinstance : (defScope st_number).names.lookup ("isinstance" : Str) = some NameKind.globalImplicit := by decide +kernel
theorem s_number_int : (defScope st_number).names.lookup ("int" : Str) = some NameKind.globalImplicit := by decide +kernel
theorem s_number_bool : (defScope st_number).names.lookup ("bool" : Str) = some NameKind.globalImplicit := by decide +kernel
theorem sc_word : FnScope ["thing", "s"] ["thing"] (defScope st_word) := ⟨rfl, rfl, rfl, by decide +kernel, rfl, by decide +kernel, by decide +kernel⟩
theorem s_word_thing : (defScope st_word).names.lookup ("thing" : Str) = some NameKind.local := by decide +kernel
theorem s_word_isinstance : (defScope st_word).names.lookup ("isinstance" : Str) = some NameKind.globalImplicit := by decide +kernel
theorem s_word_str : (defScope st_word).names.lookup ("str" : Str) = some NameKind.globalImplicit := by decide +kernel
theorem s_word_len : (defScope st_word).names.lookup ("len" : Str) = some NameKind.globalImplicit := by decide +kernel
theorem sc_hand : FnScope ["thing"] ["thing"] (defScope st_hand) := ⟨rfl, rfl, rfl, by decide +kernel, rfl, by decide +kernel, by decide +kernel⟩
theorem s_hand_thing : (defScope st_hand).names.lookup ("thing" : Str) = some NameKind.local := by decide +kernel
theorem s_hand_isinstance : (defScope st_hand).names.lookup ("isinstance" : Str) = some NameKind.globalImplicit := by decide +kernel
theorem s_hand_tuple : (defScope st_hand).names.lookup ("tuple" : Str) = some NameKind.globalImplicit := by decide +kernel
theorem s_hand_len : (defScope st_hand).names.lookup ("len" : Str) = some NameKind.globalImplicit := by decide +kernel
theorem s_hand__law_word : (defScope st_hand).names.lookup ("_law_word" : Str) = some NameKind.globalImplicit := by decide +kernel
theorem sc_pair : FnScope ["thing"] ["thing"] (defScope st_pair) := ⟨rfl, rfl, rfl, by decide +kernel, rfl, by decide +kernel, by decide +kernel⟩
theorem s_pair_thing : (defScope st_pair).names.lookup ("thing" : Str) = some NameKind.local := by decide +kernel
theorem s_pair_isinstance : (defScope st_pair).names.lookup ("isinstance" : Str) = some NameKind.globalImplicit := by decide +kernel
theorem s_pair_tuple : (defScope st_pair).names.lookup ("tuple" : Str) = some NameKind.globalImplicit := by decide +kernel
theorem s_pair_len : (defScope st_pair).names.lookup ("len" : Str) = some NameKind.globalImplicit := by decide +kernel
theorem s_pair__law_hand : (defScope st_pair).names.lookup ("_law_hand" : Str) = some NameKind.globalImplicit := by decide +kernel
theorem sc_own_is_row : FnScope ["thing", "pair", "stamp", "place", "giver", "many", "free", "here"] ["thing"] (defScope st_own_is_row) := ⟨rfl, rfl, rfl, by decide +kernel, rfl, by decide +kernel, by decide +kernel⟩
theorem s_own_is_row_thing : (defScope st_own_is_row).names.lookup ("thing" : Str) = some NameKind.local := by decide +kernel
theorem s_own_is_row_isinstance : (defScope st_own_is_row).names.lookup ("isinstance" : Str) = some NameKind.globalImplicit := by decide +kernel
theorem s_own_is_row_tuple : (defScope st_own_is_row).names.lookup ("tuple" : Str) = some NameKind.globalImplicit := by decide +kernel
theorem s_own_is_row_len : (defScope st_own_is_row).names.lookup ("len" : Str) = some NameKind.globalImplicit := by decide +kernel
theorem s_own_is_row__law_pair : (defScope st_own_is_row).names.lookup ("_law_pair" : Str) = some NameKind.globalImplicit := by decide +kernel
theorem s_own_is_row_pair : (defScope st_own_is_row).names.lookup ("pair" : Str) = some NameKind.local := by decide +kernel
theorem s_own_is_row_stamp : (defScope st_own_is_row).names.lookup ("stamp" : Str) = some NameKind.local := by decide +kernel
theorem s_own_is_row_place : (defScope st_own_is_row).names.lookup ("place" : Str) = some NameKind.local := by decide +kernel
theorem s_own_is_row_giver : (defScope st_own_is_row).names.lookup ("giver" : Str) = some NameKind.local := by decide +kernel
theorem s_own_is_row_many : (defScope st_own_is_row).names.lookup ("many" : Str) = some NameKind.local := by decide +kernel
theorem s_own_is_row_free : (defScope st_own_is_row).names.lookup ("free" : Str) = some NameKind.local := by decide +kernel
theorem s_own_is_row_here : (defScope st_own_is_row).names.lookup ("here" : Str) = some NameKind.local := by decide +kernel
theorem s_own_is_row__law_number : (defScope st_own_is_row).names.lookup ("_law_number" : Str) = some NameKind.globalImplicit := by decide +kernel
theorem s_own_is_row__law_word : (defScope st_own_is_row).names.lookup ("_law_word" : Str) = some NameKind.globalImplicit := by decide +kernel
theorem s_own_is_row_bool : (defScope st_own_is_row).names.lookup ("bool" : Str) = some NameKind.globalImplicit := by decide +kernel
theorem sc_rise : FnScope ["some", "k"] ["some"] (defScope st_rise) := ⟨rfl, rfl, rfl, by decide +kernel, rfl, by decide +kernel, by decide +kernel⟩
theorem s_rise_some : (defScope st_rise).names.lookup ("some" : Str) = some NameKind.cell := by decide +kernel
theorem s_rise_len : (defScope st_rise).names.lookup ("len" : Str) = some NameKind.globalImplicit := by decide +kernel
theorem s_rise_range : (defScope st_rise).names.lookup ("range" : Str) = some NameKind.globalImplicit := by decide +kernel
theorem sc_is_lot : FnScope ["thing", "row"] ["thing"] (defScope st_is_lot) := ⟨rfl, rfl, rfl, by decide +kernel, rfl, by decide +kernel, by decide +kernel⟩
theorem s_is_lot_thing : (defScope st_is_lot).names.lookup ("thing" : Str) = some NameKind.local := by decide +kernel
theorem s_is_lot_isinstance : (defScope st_is_lot).names.lookup ("isinstance" : Str) = some NameKind.globalImplicit := by decide +kernel
theorem s_is_lot_tuple : (defScope st_is_lot).names.lookup ("tuple" : Str) = some NameKind.globalImplicit := by decide +kernel
theorem s_is_lot_len : (defScope st_is_lot).names.lookup ("len" : Str) = some NameKind.globalImplicit := by decide +kernel
theorem s_is_lot__law_number : (defScope st_is_lot).names.lookup ("_law_number" : Str) = some NameKind.globalImplicit := by decide +kernel
theorem s_is_lot__law_rise : (defScope st_is_lot).names.lookup ("_law_rise" : Str) = some NameKind.globalImplicit := by decide +kernel
theorem sc_is_triple : FnScope ["thing"] ["thing"] (defScope st_is_triple) := ⟨rfl, rfl, rfl, by decide +kernel, rfl, by decide +kernel, by decide +kernel⟩
theorem s_is_triple_thing : (defScope st_is_triple).names.lookup ("thing" : Str) = some NameKind.local := by decide +kernel
theorem s_is_triple_isinstance : (defScope st_is_triple).names.lookup ("isinstance" : Str) = some NameKind.globalImplicit := by decide +kernel
theorem s_is_triple_tuple : (defScope st_is_triple).names.lookup ("tuple" : Str) = some NameKind.globalImplicit := by decide +kernel
theorem s_is_triple_len : (defScope st_is_triple).names.lookup ("len" : Str) = some NameKind.globalImplicit := by decide +kernel
theorem s_is_triple__law_word : (defScope st_is_triple).names.lookup ("_law_word" : Str) = some NameKind.globalImplicit := by decide +kernel
theorem s_is_triple__law_number : (defScope st_is_triple).names.lookup ("_law_number" : Str) = some NameKind.globalImplicit := by decide +kernel
theorem sc_is_news : FnScope ["thing", "one"] ["thing"] (defScope st_is_news) := ⟨rfl, rfl, rfl, by decide +kernel, rfl, by decide +kernel, by decide +kernel⟩
theorem s_is_news_thing : (defScope st_is_news).names.lookup ("thing" : Str) = some NameKind.local := by decide +kernel
theorem s_is_news_isinstance : (defScope st_is_news).names.lookup ("isinstance" : Str) = some NameKind.globalImplicit := by decide +kernel
theorem s_is_news_tuple : (defScope st_is_news).names.lookup ("tuple" : Str) = some NameKind.globalImplicit := by decide +kernel
theorem s_is_news__law_rise : (defScope st_is_news).names.lookup ("_law_rise" : Str) = some NameKind.globalImplicit := by decide +kernel
theorem sc_things : FnScope ["tap", "towns", "pairs", "row", "lot", "news", "pair", "found", "at", "odd", "rows", "one"] ["tap", "towns", "pairs"] (defScope st_things) := ⟨rfl, rfl, rfl, by decide +kernel, rfl, by decide +kernel, by decide +kernel⟩
theorem s_things_pairs : (defScope st_things).names.lookup ("pairs" : Str) = some NameKind.local := by decide +kernel
theorem s_things_towns : (defScope st_things).names.lookup ("towns" : Str) = some NameKind.local := by decide +kernel
theorem s_things_tap : (defScope st_things).names.lookup ("tap" : Str) = some NameKind.local := by decide +kernel
theorem s_things__law_news : (defScope st_things).names.lookup ("_law_news" : Str) = some NameKind.globalImplicit := by decide +kernel
theorem s_things__law_lot : (defScope st_things).names.lookup ("_law_lot" : Str) = some NameKind.globalImplicit := by decide +kernel
theorem s_things__law_row : (defScope st_things).names.lookup ("_law_row" : Str) = some NameKind.globalImplicit := by decide +kernel
theorem s_things_row : (defScope st_things).names.lookup ("row" : Str) = some NameKind.local := by decide +kernel
theorem s_things_lot : (defScope st_things).names.lookup ("lot" : Str) = some NameKind.local := by decide +kernel
theorem s_things_news : (defScope st_things).names.lookup ("news" : Str) = some NameKind.local := by decide +kernel
theorem s_things_pair : (defScope st_things).names.lookup ("pair" : Str) = some NameKind.local := by decide +kernel
theorem s_things_list : (defScope st_things).names.lookup ("list" : Str) = some NameKind.globalImplicit := by decide +kernel
theorem s_things_found : (defScope st_things).names.lookup ("found" : Str) = some NameKind.local := by decide +kernel
theorem s_things_tuple : (defScope st_things).names.lookup ("tuple" : Str) = some NameKind.globalImplicit := by decide +kernel
theorem s_things_at : (defScope st_things).names.lookup ("at" : Str) = some NameKind.local := by decide +kernel
theorem s_things_odd : (defScope st_things).names.lookup ("odd" : Str) = some NameKind.local := by decide +kernel
theorem s_things_rows : (defScope st_things).names.lookup ("rows" : Str) = some NameKind.local := by decide +kernel
theorem sc_great : FnScope ["letters", "words", "rows", "news", "k", "word"] [] (defScope st_great) := ⟨rfl, rfl, rfl, by decide +kernel, rfl, by decide +kernel, by decide +kernel⟩
theorem s_great_letters : (defScope st_great).names.lookup ("letters" : Str) = some NameKind.cell := by decide +kernel
theorem s_great_range : (defScope st_great).names.lookup ("range" : Str) = some NameKind.globalImplicit := by decide +kernel
theorem s_great_sorted : (defScope st_great).names.lookup ("sorted" : Str) = some NameKind.globalImplicit := by decide +kernel
theorem s_great_words : (defScope st_great).names.lookup ("words" : Str) = some NameKind.local := by decide +kernel
theorem s_great_enumerate : (defScope st_great).names.lookup ("enumerate" : Str) = some NameKind.globalImplicit := by decide +kernel
theorem s_great_tuple : (defScope st_great).names.lookup ("tuple" : Str) = some NameKind.globalImplicit := by decide +kernel
theorem s_great_rows : (defScope st_great).names.lookup ("rows" : Str) = some NameKind.local := by decide +kernel
theorem s_great_news : (defScope st_great).names.lookup ("news" : Str) = some NameKind.local := by decide +kernel
theorem sc_law : FnScope ["script", "tap", "towns", "pairs", "things", "k", "bend", "thing", "kept", "due", "looks"] ["script"] (defScope st_law) := ⟨rfl, rfl, rfl, by decide +kernel, rfl, by decide +kernel, by decide +kernel⟩
theorem s_law_script : (defScope st_law).names.lookup ("script" : Str) = some NameKind.local := by decide +kernel
theorem s_law__law_tap : (defScope st_law).names.lookup ("_law_tap" : Str) = some NameKind.globalImplicit := by decide +kernel
theorem s_law_tap : (defScope st_law).names.lookup ("tap" : Str) = some NameKind.local := by decide +kernel
theorem s_law__law_towns : (defScope st_law).names.lookup ("_law_towns" : Str) = some NameKind.globalImplicit := by decide +kernel
theorem s_law_towns : (defScope st_law).names.lookup ("towns" : Str) = some NameKind.local := by decide +kernel
theorem s_law__law_seats : (defScope st_law).names.lookup ("_law_seats" : Str) = some NameKind.globalImplicit := by decide +kernel
theorem s_law__law_twos : (defScope st_law).names.lookup ("_law_twos" : Str) = some NameKind.globalImplicit := by decide +kernel
theorem s_law_pairs : (defScope st_law).names.lookup ("pairs" : Str) = some NameKind.local := by decide +kernel
theorem s_law__law_things : (defScope st_law).names.lookup ("_law_things" : Str) = some NameKind.globalImplicit := by decide +kernel
theorem s_law__law_great : (defScope st_law).names.lookup ("_law_great" : Str) = some NameKind.globalImplicit := by decide +kernel
theorem s_law_things : (defScope st_law).names.lookup ("things" : Str) = some NameKind.local := by decide +kernel
theorem s_law_range : (defScope st_law).names.lookup ("range" : Str) = some NameKind.globalImplicit := by decide +kernel
theorem s_law_k : (defScope st_law).names.lookup ("k" : Str) = some NameKind.local := by decide +kernel
theorem s_law__law_take : (defScope st_law).names.lookup ("_law_take" : Str) = some NameKind.globalImplicit := by decide +kernel
theorem s_law__law_bend : (defScope st_law).names.lookup ("_law_bend" : Str) = some NameKind.globalImplicit := by decide +kernel
theorem s_law_bend : (defScope st_law).names.lookup ("bend" : Str) = some NameKind.local := by decide +kernel
theorem s_law__law_odd : (defScope st_law).names.lookup ("_law_odd" : Str) = some NameKind.globalImplicit := by decide +kernel
theorem s_law_thing : (defScope st_law).names.lookup ("thing" : Str) = some NameKind.local := by decide +kernel
theorem s_law_repr : (defScope st_law).names.lookup ("repr" : Str) = some NameKind.globalImplicit := by decide +kernel
theorem s_law_kept : (defScope st_law).names.lookup ("kept" : Str) = some NameKind.local := by decide +kernel
theorem s_law__law_is_lot : (defScope st_law).names.lookup ("_law_is_lot" : Str) = some NameKind.globalImplicit := by decide +kernel
theorem s_law__law_is_row : (defScope st_law).names.lookup ("_law_is_row" : Str) = some NameKind.globalImplicit := by decide +kernel
theorem s_law__law_pair : (defScope st_law).names.lookup ("_law_pair" : Str) = some NameKind.globalImplicit := by decide +kernel
theorem s_law__law_hand : (defScope st_law).names.lookup ("_law_hand" : Str) = some NameKind.globalImplicit := by decide +kernel
theorem s_law__law_word : (defScope st_law).names.lookup ("_law_word" : Str) = some NameKind.globalImplicit := by decide +kernel
theorem s_law_due : (defScope st_law).names.lookup ("due" : Str) = some NameKind.local := by decide +kernel
theorem s_law_is_rights : (defScope st_law).names.lookup ("is_rights" : Str) = some NameKind.globalImplicit := by decide +kernel
theorem s_law_is_row : (defScope st_law).names.lookup ("is_row" : Str) = some NameKind.globalImplicit := by decide +kernel
theorem s_law_is_pair : (defScope st_law).names.lookup ("is_pair" : Str) = some NameKind.globalImplicit := by decide +kernel
theorem s_law_is_hand : (defScope st_law).names.lookup ("is_hand" : Str) = some NameKind.globalImplicit := by decide +kernel
theorem s_law_is_word : (defScope st_law).names.lookup ("is_word" : Str) = some NameKind.globalImplicit := by decide +kernel
theorem s_law_looks : (defScope st_law).names.lookup ("looks" : Str) = some NameKind.local := by decide +kernel
theorem s_law_is_heard : (defScope st_law).names.lookup ("is_heard" : Str) = some NameKind.globalImplicit := by decide +kernel
theorem s_law__law_is_news : (defScope st_law).names.lookup ("_law_is_news" : Str) = some NameKind.globalImplicit := by decide +kernel
section
variable {P : Program} {w : World} {K : PySem.W.Frag} {mg : Str → Option Value} {base : Heap} {XR : Hp → Hp → Value → Option Addr → Xc → Prop}
structure Zs (K : PySem.W.Frag) (mg : Str → Option Value) (f_is_count : Addr) (d_is_count : FuncData) (f_is_tuple_of : Addr) (d_is_tuple_of : FuncData) (f_rises : Addr) (d_rises : FuncData) (f_is_word : Addr) (d_is_word : FuncData) (f_is_hand : Addr) (d_is_hand : FuncData) (f_is_pair : Addr) (d_is_pair : FuncData) (f_is_stamp : Addr) (d_is_stamp : FuncData) (f_is_row : Addr) (d_is_row : FuncData) (f_is_rights : Addr) (d_is_rights : FuncData) (f_is_told_rise : Addr) (d_is_told_rise : FuncData) (f_is_heard : Addr) (d_is_heard : FuncData) (f_tap : Addr) (d_tap : FuncData) (f_take : Addr) (d_take : FuncData) (f_odd : Addr) (d_odd : FuncData) (f_bend : Addr) (d_bend : FuncData) (f_towns : Addr) (d_towns : FuncData) (f_seats : Addr) (d_seats : FuncData) (f_twos : Addr) (d_twos : FuncData) (f_row : Addr) (d_row : FuncData) (f_lot : Addr) (d_lot : FuncData) (f_news : Addr) (d_news : FuncData) (f_number : Addr) (d_number : FuncData) (f_word : Addr) (d_word : FuncData) (f_hand : Addr) (d_hand : FuncData) (f_pair : Addr) (d_pair : FuncData) (f_own_is_row : Addr) (d_own_is_row : FuncData) (f_rise : Addr) (d_rise : FuncData) (f_is_lot : Addr) (d_is_lot : FuncData) (f_is_triple : Addr) (d_is_triple : FuncData) (f_is_news : Addr) (d_is_news : FuncData) (f_things : Addr) (d_things : FuncData) (f_great : Addr) (d_great : FuncData) : Prop where
  n_all : mg "all" = none
  n_bool : mg "bool" = none
  n_enumerate : mg "enumerate" = none
  n_int : mg "int" = none
  n_isinstance : mg "isinstance" = none
  n_len : mg "len" = none
  n_list : mg "list" = none
  n_max : mg "max" = none
  n_min : mg "min" = none
  n_range : mg "range" = none
  n_repr : mg "repr" = none
  n_sorted : mg "sorted" = none
  n_str : mg "str" = none
  n_tuple : mg "tuple" = none
  n_type : mg "type" = none
  n_zip : mg "zip" = none
  g_is_count : mg "is_count" = some (.ref f_is_count)
  k_is_count : PySem.W.keepIn K (.ref f_is_count) = true
  b_is_count : Binds K d_is_count ["thing"] []
  g_is_tuple_of : mg "is_tuple_of" = some (.ref f_is_tuple_of)
  k_is_tuple_of : PySem.W.keepIn K (.ref f_is_tuple_of) = true
  b_is_tuple_of : Binds K d_is_tuple_of ["thing", "many"] []
  g_rises : mg "rises" = some (.ref f_rises)
  k_rises : PySem.W.keepIn K (.ref f_rises) = true
  b_rises : Binds K d_rises ["keys"] []
  g_is_word : mg "is_word" = some (.ref f_is_word)
  k_is_word : PySem.W.keepIn K (.ref f_is_word) = true
  b_is_word : Binds K d_is_word ["thing"] []
  g_is_hand : mg "is_hand" = some (.ref f_is_hand)
  k_is_hand : PySem.W.keepIn K (.ref f_is_hand) = true
  b_is_hand : Binds K d_is_hand ["thing"] []
  g_is_pair : mg "is_pair" = some (.ref f_is_pair)
  k_is_pair : PySem.W.keepIn K (.ref f_is_pair) = true
  b_is_pair : Binds K d_is_pair ["thing"] []
  g_is_stamp : mg "is_stamp" = some (.ref f_is_stamp)
  k_is_stamp : PySem.W.keepIn K (.ref f_is_stamp) = true
  b_is_stamp : Binds K d_is_stamp ["thing"] []
  g_is_row : mg "is_row" = some (.ref f_is_row)
  k_is_row : PySem.W.keepIn K (.ref f_is_row) = true
  b_is_row : Binds K d_is_row ["thing"] []
  g_is_rights : mg "is_rights" = some (.ref f_is_rights)
  k_is_rights : PySem.W.keepIn K (.ref f_is_rights) = true
  b_is_rights : Binds K d_is_rights ["thing"] []
  g_is_told_rise : mg "is_told_rise" = some (.ref f_is_told_rise)
  k_is_told_rise : PySem.W.keepIn K (.ref f_is_told_rise) = true
  b_is_told_rise : Binds K d_is_told_rise ["thing"] []
  g_is_heard : mg "is_heard" = some (.ref f_is_heard)
  k_is_heard : PySem.W.keepIn K (.ref f_is_heard) = true
  b_is_heard : Binds K d_is_heard ["thing"] []
  g_tap : mg "_law_tap" = some (.ref f_tap)
  k_tap : PySem.W.keepIn K (.ref f_tap) = true
  b_tap : Binds K d_tap ["script"] []
  g_take : mg "_law_take" = some (.ref f_take)
  k_take : PySem.W.keepIn K (.ref f_take) = true
  b_take : Binds K d_take ["tap", "many"] []
  g_odd : mg "_law_odd" = some (.ref f_odd)
  k_odd : PySem.W.keepIn K (.ref f_odd) = true
  b_odd : Binds K d_odd ["tap"] []
  g_bend : mg "_law_bend" = some (.ref f_bend)
  k_bend : PySem.W.keepIn K (.ref f_bend) = true
  b_bend : Binds K d_bend ["tap", "thing", "deep"] []
  g_towns : mg "_law_towns" = some (.ref f_towns)
  k_towns : PySem.W.keepIn K (.ref f_towns) = true
  b_towns : Binds K d_towns ["tap", "least"] []
  g_seats : mg "_law_seats" = some (.ref f_seats)
  k_seats : PySem.W.keepIn K (.ref f_seats) = true
  b_seats : Binds K d_seats ["tap", "towns", "many"] []
  g_twos : mg "_law_twos" = some (.ref f_twos)
  k_twos : PySem.W.keepIn K (.ref f_twos) = true
  b_twos : Binds K d_twos ["people"] []
  g_row : mg "_law_row" = some (.ref f_row)
  k_row : PySem.W.keepIn K (.ref f_row) = true
  b_row : Binds K d_row ["tap", "pair", "towns"] []
  g_lot : mg "_law_lot" = some (.ref f_lot)
  k_lot : PySem.W.keepIn K (.ref f_lot) = true
  b_lot : Binds K d_lot ["tap", "pairs", "towns"] []
  g_news : mg "_law_news" = some (.ref f_news)
  k_news : PySem.W.keepIn K (.ref f_news) = true
  b_news : Binds K d_news ["tap", "towns"] []
  g_number : mg "_law_number" = some (.ref f_number)
  k_number : PySem.W.keepIn K (.ref f_number) = true
  b_number : Binds K d_number ["thing"] []
  g_word : mg "_law_word" = some (.ref f_word)
  k_word : PySem.W.keepIn K (.ref f_word) = true
  b_word : Binds K d_word ["thing"] []
  g_hand : mg "_law_hand" = some (.ref f_hand)
  k_hand : PySem.W.keepIn K (.ref f_hand) = true
  b_hand : Binds K d_hand ["thing"] []
  g_pair : mg "_law_pair" = some (.ref f_pair)
  k_pair : PySem.W.keepIn K (.ref f_pair) = true
  b_pair : Binds K d_pair ["thing"] []
  g_own_is_row : mg "_law_is_row" = some (.ref f_own_is_row)
  k_own_is_row : PySem.W.keepIn K (.ref f_own_is_row) = true
  b_own_is_row : Binds K d_own_is_row ["thing"] []
  g_rise : mg "_law_rise" = some (.ref f_rise)
  k_rise : PySem.W.keepIn K (.ref f_rise) = true
  b_rise : Binds K d_rise ["some"] []
  g_is_lot : mg "_law_is_lot" = some (.ref f_is_lot)
  k_is_lot : PySem.W.keepIn K (.ref f_is_lot) = true
  b_is_lot : Binds K d_is_lot ["thing"] []
  g_is_triple : mg "_law_is_triple" = some (.ref f_is_triple)
  k_is_triple : PySem.W.keepIn K (.ref f_is_triple) = true
  b_is_triple : Binds K d_is_triple ["thing"] []
  g_is_news : mg "_law_is_news" = some (.ref f_is_news)
  k_is_news : PySem.W.keepIn K (.ref f_is_news) = true
  b_is_news : Binds K d_is_news ["thing"] []
  g_things : mg "_law_things" = some (.ref f_things)
  k_things : PySem.W.keepIn K (.ref f_things) = true
  b_things : Binds K d_things ["tap", "towns", "pairs"] []
  g_great : mg "_law_great" = some (.ref f_great)
  k_great : PySem.W.keepIn K (.ref f_great) = true
  b_great : Binds K d_great [] []
  p_great_0_ : BindsP K d_great [] [] 0 0 []
  q_great_0_ : pkOk K (0 + 0) []
variable {f_is_count : Addr} {d_is_count : FuncData} {f_is_tuple_of : Addr} {d_is_tuple_of : FuncData} {f_rises : Addr} {d_rises : FuncData} {f_is_word : Addr} {d_is_word : FuncData} {f_is_hand : Addr} {d_is_hand : FuncData} {f_is_pair : Addr} {d_is_pair : FuncData} {f_is_stamp : Addr} {d_is_stamp : FuncData} {f_is_row : Addr} {d_is_row : FuncData} {f_is_rights : Addr} {d_is_rights : FuncData} {f_is_told_rise : Addr} {d_is_told_rise : FuncData} {f_is_heard : Addr} {d_is_heard : FuncData} {f_tap : Addr} {d_tap : FuncData} {f_take : Addr} {d_take : FuncData} {f_odd : Addr} {d_odd : FuncData} {f_bend : Addr} {d_bend : FuncData} {f_towns : Addr} {d_towns : FuncData} {f_seats : Addr} {d_seats : FuncData} {f_twos : Addr} {d_twos : FuncData} {f_row : Addr} {d_row : FuncData} {f_lot : Addr} {d_lot : FuncData} {f_news : Addr} {d_news : FuncData} {f_number : Addr} {d_number : FuncData} {f_word : Addr} {d_word : FuncData} {f_hand : Addr} {d_hand : FuncData} {f_pair : Addr} {d_pair : FuncData} {f_own_is_row : Addr} {d_own_is_row : FuncData} {f_rise : Addr} {d_rise : FuncData} {f_is_lot : Addr} {d_is_lot : FuncData} {f_is_triple : Addr} {d_is_triple : FuncData} {f_is_news : Addr} {d_is_news : FuncData} {f_things : Addr} {d_things : FuncData} {f_great : Addr} {d_great : FuncData}
theorem ok_is_count {f : Addr} {fd : FuncData} (Z : Zs K mg f_is_count d_is_count f_is_tuple_of d_is_tuple_of f_rises d_rises f_is_word d_is_word f_is_hand d_is_hand f_is_pair d_is_pair f_is_stamp d_is_stamp f_is_row d_is_row f_is_rights d_is_rights f_is_told_rise d_is_told_rise f_is_heard d_is_heard f_tap d_tap f_take d_take f_odd d_odd f_bend d_bend f_towns d_towns f_seats d_seats f_twos d_twos f_row d_row f_lot d_lot f_news d_news f_number d_number f_word d_word f_hand d_hand f_pair d_pair f_own_is_row d_own_is_row f_rise d_rise f_is_lot d_is_lot f_is_triple d_is_triple f_is_news d_is_news f_things d_things f_great d_great) (F0 : Fun K "is_count" "is_count" st_is_count f fd)  : FnG P w K mg base (L2.CX P w) 1 f fd ["thing"] (spI K XR 1 Lw.fn_is_count) := by
  refine okI (N := ["thing"]) (ps := ["thing"]) (k := 0) (body := Lw.m_is_count) [false] F0 sc_is_count rfl (by decide) fun cdv A outer s H E hg hr => ?_
  have hu := hr.units
  have hu1 := hr.units1
  have tk : Takes (cxOf (L2.CX P w) P w K mg base ["thing"] "is_count" (defScope st_is_count) f cdv A outer s H E) (fun cls d _ H' => E cls d H') := takes_of rfl rfl rfl rfl
  exact ss_one (s_ret (o_of_d (d_and (d_tyIs s_is_count_type Z.n_type s_is_count_int Z.n_int (by decide +kernel) (a_name (pe_var (i := 0) rfl (.inl s_is_count_thing)))) (d_one (d_cmp (od_ge hu) (a_name (pe_var (i := 0) rfl (.inl s_is_count_thing))) (a_of_d (d_int)))))))
theorem ok_is_tuple_of {f : Addr} {fd : FuncData} (Z : Zs K mg f_is_count d_is_count f_is_tuple_of d_is_tuple_of f_rises d_rises f_is_word d_is_word f_is_hand d_is_hand f_is_pair d_is_pair f_is_stamp d_is_stamp f_is_row d_is_row f_is_rights d_is_rights f_is_told_rise d_is_told_rise f_is_heard d_is_heard f_tap d_tap f_take d_take f_odd d_odd f_bend d_bend f_towns d_towns f_seats d_seats f_twos d_twos f_row d_row f_lot d_lot f_news d_news f_number d_number f_word d_word f_hand d_hand f_pair d_pair f_own_is_row d_own_is_row f_rise d_rise f_is_lot d_is_lot f_is_triple d_is_triple f_is_news d_is_news f_things d_things f_great d_great) (F0 : Fun K "is_tuple_of" "is_tuple_of" st_is_tuple_of f fd)  : FnG P w K mg base (L2.CX P w) 1 f fd ["thing", "many"] (spI K XR 2 Lw.fn_is_tuple_of) := by
  refine okI (N := ["thing", "many"]) (ps := ["thing", "many"]) (k := 0) (body := Lw.m_is_tuple_of) [false, false] F0 sc_is_tuple_of rfl (by decide) fun cdv A outer s H E hg hr => ?_
  have hu := hr.units
  have hu1 := hr.units1
  have tk : Takes (cxOf (L2.CX P w) P w K mg base ["thing", "many"] "is_tuple_of" (defScope st_is_tuple_of) f cdv A outer s H E) (fun cls d _ H' => E cls d H') := takes_of rfl rfl rfl rfl
  exact ss_one (s_ret (o_of_d (d_and (d_tyIs s_is_tuple_of_type Z.n_type s_is_tuple_of_tuple Z.n_tuple (by decide +kernel) (a_name (pe_var (i := 0) rfl (.inl s_is_tuple_of_thing)))) (d_one (d_cmp (od_eq hu) (a_of_d (d_of_o (o_call co_len s_is_tuple_of_len Z.n_len b_len (l_cons (a_name (pe_var (i := 0) rfl (.inl s_is_tuple_of_thing))) (l_nil))))) (a_name (pe_var (i := 1) rfl (.inl s_is_tuple_of_many))))))))
theorem ok_rises {f : Addr} {fd : FuncData} (Z : Zs K mg f_is_count d_is_count f_is_tuple_of d_is_tuple_of f_rises d_rises f_is_word d_is_word f_is_hand d_is_hand f_is_pair d_is_pair f_is_stamp d_is_stamp f_is_row d_is_row f_is_rights d_is_rights f_is_told_rise d_is_told_rise f_is_heard d_is_heard f_tap d_tap f_take d_take f_odd d_odd f_bend d_bend f_towns d_towns f_seats d_seats f_twos d_twos f_row d_row f_lot d_lot f_news d_news f_number d_number f_word d_word f_hand d_hand f_pair d_pair f_own_is_row d_own_is_row f_rise d_rise f_is_lot d_is_lot f_is_triple d_is_triple f_is_news d_is_news f_things d_things f_great d_great) (F0 : Fun K "rises" "rises" st_rises f fd)  : FnG P w K mg base (L2.CX P w) 1 f fd ["keys"] (spI K XR 1 Lw.fn_rises) := by
  refine okI (N := ["keys", "one", "other"]) (ps := ["keys"]) (k := 0) (body := Lw.m_rises) [false] F0 sc_rises rfl (by decide) fun cdv A outer s H E hg hr => ?_
  have hu := hr.units
  have hu1 := hr.units1
  have tk : Takes (cxOf (L2.CX P w) P w K mg base ["keys", "one", "other"] "rises" (defScope st_rises) f cdv A outer s H E) (fun cls d _ H' => E cls d H') := takes_of rfl rfl rfl rfl
  exact ss_one (s_ret (o_call (co_all rfl) s_rises_all Z.n_all b_all (l_cons (a_of_d (d_of_o (o_comp (n := 3) (own := [("one", 1), ("other", 2)]) rfl sc_rises.nd (i_zip s_rises_zip Z.n_zip (d_name (pe_var (i := 0) rfl (.inl s_rises_keys))) (d_of_o (o_sl (a_name (pe_var (i := 0) rfl (.inl s_rises_keys))) (pt_some (d_int)) (pt_none)))) (blkOk_by (N := ["keys", "one", "other"]) (sc := defScope st_rises) (own := [("one", 1), ("other", 2)]) (by decide +kernel)) (fun _ _ _ _ _ => pg_tup (n := 2) rfl (pgs_cons (pg_name (i := 1) sc_rises.nd rfl (.inl rfl)) (pgs_cons (pg_name (i := 2) sc_rises.nd rfl (.inl rfl)) (pgs_nil)))) (g_tup (.cons (g_name) (.cons (g_name) (.nil)))) (fun _ _ _ _ _ => c_none) (fun _ _ _ _ _ => d_cmp (od_lt hu) (a_name (pe_var (i := 1) rfl (.inl rfl))) (a_name (pe_var (i := 2) rfl (.inl rfl))))))) (l_nil))))
theorem ok_is_word {f : Addr} {fd : FuncData} (Z : Zs K mg f_is_count d_is_count f_is_tuple_of d_is_tuple_of f_rises d_rises f_is_word d_is_word f_is_hand d_is_hand f_is_pair d_is_pair f_is_stamp d_is_stamp f_is_row d_is_row f_is_rights d_is_rights f_is_told_rise d_is_told_rise f_is_heard d_is_heard f_tap d_tap f_take d_take f_odd d_odd f_bend d_bend f_towns d_towns f_seats d_seats f_twos d_twos f_row d_row f_lot d_lot f_news d_news f_number d_number f_word d_word f_hand d_hand f_pair d_pair f_own_is_row d_own_is_row f_rise d_rise f_is_lot d_is_lot f_is_triple d_is_triple f_is_news d_is_news f_things d_things f_great d_great) (F0 : Fun K "is_word" "is_word" st_is_word f fd)  : FnG P w K mg base (L2.CX P w) 1 f fd ["thing"] (spI K XR 1 Lw.fn_is_word) := by
  refine okI (N := ["thing", "sign"]) (ps := ["thing"]) (k := 0) (body := Lw.m_is_word) [false] F0 sc_is_word rfl (by decide) fun cdv A outer s H E hg hr => ?_
  have hu := hr.units
  have hu1 := hr.units1
  have tk : Takes (cxOf (L2.CX P w) P w K mg base ["thing", "sign"] "is_word" (defScope st_is_word) f cdv A outer s H E) (fun cls d _ H' => E cls d H') := takes_of rfl rfl rfl rfl
  exact ss_cons (s_if (t_tyNot s_is_word_type Z.n_type s_is_word_str Z.n_str (by decide +kernel) (a_name (pe_var (i := 0) rfl (.inl s_is_word_thing)))) (ss_one (s_ret (o_of_d (d_bool)))) (ss_nil)) (ss_one (s_ret (o_of_d (d_and (d_chain (od_le hu) (od_le hu) (d_int) (d_of_o (o_call co_len s_is_word_len Z.n_len b_len (l_cons (a_name (pe_var (i := 0) rfl (.inl s_is_word_thing))) (l_nil)))) (d_int)) (d_one (d_of_o (o_call (co_all rfl) s_is_word_all Z.n_all b_all (l_cons (a_of_d (d_of_o (o_comp (n := 2) (own := [("sign", 1)]) rfl sc_is_word.nd (i_txt (d_name (pe_var (i := 0) rfl (.inl s_is_word_thing)))) (blkOk_by (N := ["thing", "sign"]) (sc := defScope st_is_word) (own := [("sign", 1)]) (by decide +kernel)) (fun _ _ _ _ _ => pg_name (i := 1) sc_is_word.nd rfl (.inl rfl)) (g_name) (fun _ _ _ _ _ => c_none) (fun _ _ _ _ _ => d_chain (od_le hu) (od_le hu) (d_str) (d_name (pe_var (i := 1) rfl (.inl rfl))) (d_str))))) (l_nil)))))))))
theorem ok_is_hand {f : Addr} {fd : FuncData} (Z : Zs K mg f_is_count d_is_count f_is_tuple_of d_is_tuple_of f_rises d_rises f_is_word d_is_word f_is_hand d_is_hand f_is_pair d_is_pair f_is_stamp d_is_stamp f_is_row d_is_row f_is_rights d_is_rights f_is_told_rise d_is_told_rise f_is_heard d_is_heard f_tap d_tap f_take d_take f_odd d_odd f_bend d_bend f_towns d_towns f_seats d_seats f_twos d_twos f_row d_row f_lot d_lot f_news d_news f_number d_number f_word d_word f_hand d_hand f_pair d_pair f_own_is_row d_own_is_row f_rise d_rise f_is_lot d_is_lot f_is_triple d_is_triple f_is_news d_is_news f_things d_things f_great d_great) (F0 : Fun K "is_hand" "is_hand" st_is_hand f fd) (F_is_tuple_of : FnG P w K mg base (L2.CX P w) 1 f_is_tuple_of d_is_tuple_of ["thing", "many"] (spI K XR 2 Lw.fn_is_tuple_of)) (F_is_word : FnG P w K mg base (L2.CX P w) 1 f_is_word d_is_word ["thing"] (spI K XR 1 Lw.fn_is_word)) : FnG P w K mg base (L2.CX P w) 2 f fd ["thing"] (spI K XR 1 Lw.fn_is_hand) := by
  refine okI (N := ["thing"]) (ps := ["thing"]) (k := 1) (body := Lw.m_is_hand) [false] F0 sc_is_hand rfl (by decide) fun cdv A outer s H E hg hr => ?_
  have hu := hr.units
  have hu1 := hr.units1
  have tk : Takes (cxOf (L2.CX P w) P w K mg base ["thing"] "is_hand" (defScope st_is_hand) f cdv A outer s H E) (fun cls d _ H' => E cls d H') := takes_of rfl rfl rfl rfl
  exact ss_one (s_ret (o_of_d (d_and (d_of_o (o_fn F_is_tuple_of hg (hr.mono (by decide)) s_is_hand_is_tuple_of Z.g_is_tuple_of Z.k_is_tuple_of Z.b_is_tuple_of tk (l_cons (a_of_d (d_name (pe_var (i := 0) rfl (.inl s_is_hand_thing)))) (l_cons (a_of_d (d_int)) (l_nil))) rfl (ll_cons (ll_cons (ll_nil))))) (d_and (d_of_o (o_fn F_is_word hg (hr.mono (by decide)) s_is_hand_is_word Z.g_is_word Z.k_is_word Z.b_is_word tk (l_cons (a_of_d (d_ix (a_name (pe_var (i := 0) rfl (.inl s_is_hand_thing))) (a_of_d (d_int)) (fun _ _ => rfl))) (l_nil)) rfl (ll_cons (ll_nil)))) (d_one (d_of_o (o_fn F_is_word hg (hr.mono (by decide)) s_is_hand_is_word Z.g_is_word Z.k_is_word Z.b_is_word tk (l_cons (a_of_d (d_ix (a_name (pe_var (i := 0) rfl (.inl s_is_hand_thing))) (a_of_d (d_int)) (fun _ _ => rfl))) (l_nil)) rfl (ll_cons (ll_nil)))))))))
theorem ok_is_pair {f : Addr} {fd : FuncData} (Z : Zs K mg f_is_count d_is_count f_is_tuple_of d_is_tuple_of f_rises d_rises f_is_word d_is_word f_is_hand d_is_hand f_is_pair d_is_pair f_is_stamp d_is_stamp f_is_row d_is_row f_is_rights d_is_rights f_is_told_rise d_is_told_rise f_is_heard d_is_heard f_tap d_tap f_take d_take f_odd d_odd f_bend d_bend f_towns d_towns f_seats d_seats f_twos d_twos f_row d_row f_lot d_lot f_news d_news f_number d_number f_word d_word f_hand d_hand f_pair d_pair f_own_is_row d_own_is_row f_rise d_rise f_is_lot d_is_lot f_is_triple d_is_triple f_is_news d_is_news f_things d_things f_great d_great) (F0 : Fun K "is_pair" "is_pair" st_is_pair f fd) (F_is_tuple_of : FnG P w K mg base (L2.CX P w) 1 f_is_tuple_of d_is_tuple_of ["thing", "many"] (spI K XR 2 Lw.fn_is_tuple_of)) (F_is_hand : FnG P w K mg base (L2.CX P w) 2 f_is_hand d_is_hand ["thing"] (spI K XR 1 Lw.fn_is_hand)) : FnG P w K mg base (L2.CX P w) 3 f fd ["thing"] (spI K XR 1 Lw.fn_is_pair) := by
  refine okI (N := ["thing"]) (ps := ["thing"]) (k := 2) (body := Lw.m_is_pair) [false] F0 sc_is_pair rfl (by decide) fun cdv A outer s H E hg hr => ?_
  have hu := hr.units
  have hu1 := hr.units1
  have tk : Takes (cxOf (L2.CX P w) P w K mg base ["thing"] "is_pair" (defScope st_is_pair) f cdv A outer s H E) (fun cls d _ H' => E cls d H') := takes_of rfl rfl rfl rfl
  exact ss_one (s_ret (o_of_d (d_and (d_of_o (o_fn F_is_tuple_of hg (hr.mono (by decide)) s_is_pair_is_tuple_of Z.g_is_tuple_of Z.k_is_tuple_of Z.b_is_tuple_of tk (l_cons (a_of_d (d_name (pe_var (i := 0) rfl (.inl s_is_pair_thing)))) (l_cons (a_of_d (d_int)) (l_nil))) rfl (ll_cons (ll_cons (ll_nil))))) (d_and (d_of_o (o_fn F_is_hand hg (hr.mono (by decide)) s_is_pair_is_hand Z.g_is_hand Z.k_is_hand Z.b_is_hand tk (l_cons (a_of_d (d_ix (a_name (pe_var (i := 0) rfl (.inl s_is_pair_thing))) (a_of_d (d_int)) (fun _ _ => rfl))) (l_nil)) rfl (ll_cons (ll_nil)))) (d_and (d_of_o (o_fn F_is_hand hg (hr.mono (by decide)) s_is_pair_is_hand Z.g_is_hand Z.k_is_hand Z.b_is_hand tk (l_cons (a_of_d (d_ix (a_name (pe_var (i := 0) rfl (.inl s_is_pair_thing))) (a_of_d (d_int)) (fun _ _ => rfl))) (l_nil)) rfl (ll_cons (ll_nil)))) (d_one (d_cmp (od_lt hu) (a_of_d (d_ix (a_name (pe_var (i := 0) rfl (.inl s_is_pair_thing))) (a_of_d (d_int)) (fun _ _ => rfl))) (a_of_d (d_ix (a_name (pe_var (i := 0) rfl (.inl s_is_pair_thing))) (a_of_d (d_int)) (fun _ _ => rfl))))))))))
theorem ok_is_stamp {f : Addr} {fd : FuncData} (Z : Zs K mg f_is_count d_is_count f_is_tuple_of d_is_tuple_of f_rises d_rises f_is_word d_is_word f_is_hand d_is_hand f_is_pair d_is_pair f_is_stamp d_is_stamp f_is_row d_is_row f_is_rights d_is_rights f_is_told_rise d_is_told_rise f_is_heard d_is_heard f_tap d_tap f_take d_take f_odd d_odd f_bend d_bend f_towns d_towns f_seats d_seats f_twos d_twos f_row d_row f_lot d_lot f_news d_news f_number d_number f_word d_word f_hand d_hand f_pair d_pair f_own_is_row d_own_is_row f_rise d_rise f_is_lot d_is_lot f_is_triple d_is_triple f_is_news d_is_news f_things d_things f_great d_great) (F0 : Fun K "is_stamp" "is_stamp" st_is_stamp f fd) (F_is_tuple_of : FnG P w K mg base (L2.CX P w) 1 f_is_tuple_of d_is_tuple_of ["thing", "many"] (spI K XR 2 Lw.fn_is_tuple_of)) (F_is_count : FnG P w K mg base (L2.CX P w) 1 f_is_count d_is_count ["thing"] (spI K XR 1 Lw.fn_is_count)) : FnG P w K mg base (L2.CX P w) 2 f fd ["thing"] (spI K XR 1 Lw.fn_is_stamp) := by
  refine okI (N := ["thing"]) (ps := ["thing"]) (k := 1) (body := Lw.m_is_stamp) [false] F0 sc_is_stamp rfl (by decide) fun cdv A outer s H E hg hr => ?_
  have hu := hr.units
  have hu1 := hr.units1
  have tk : Takes (cxOf (L2.CX P w) P w K mg base ["thing"] "is_stamp" (defScope st_is_stamp) f cdv A outer s H E) (fun cls d _ H' => E cls d H') := takes_of rfl rfl rfl rfl
  exact ss_one (s_ret (o_of_d (d_and (d_of_o (o_fn F_is_tuple_of hg (hr.mono (by decide)) s_is_stamp_is_tuple_of Z.g_is_tuple_of Z.k_is_tuple_of Z.b_is_tuple_of tk (l_cons (a_of_d (d_name (pe_var (i := 0) rfl (.inl s_is_stamp_thing)))) (l_cons (a_of_d (d_int)) (l_nil))) rfl (ll_cons (ll_cons (ll_nil))))) (d_and (d_of_o (o_fn F_is_count hg (hr.mono (by decide)) s_is_stamp_is_count Z.g_is_count Z.k_is_count Z.b_is_count tk (l_cons (a_of_d (d_ix (a_name (pe_var (i := 0) rfl (.inl s_is_stamp_thing))) (a_of_d (d_int)) (fun _ _ => rfl))) (l_nil)) rfl (ll_cons (ll_nil)))) (d_one (d_of_o (o_fn F_is_count hg (hr.mono (by decide)) s_is_stamp_is_count Z.g_is_count Z.k_is_count Z.b_is_count tk (l_cons (a_of_d (d_ix (a_name (pe_var (i := 0) rfl (.inl s_is_stamp_thing))) (a_of_d (d_int)) (fun _ _ => rfl))) (l_nil)) rfl (ll_cons (ll_nil)))))))))
theorem ok_is_row {f : Addr} {fd : FuncData} (Z : Zs K mg f_is_count d_is_count f_is_tuple_of d_is_tuple_of f_rises d_rises f_is_word d_is_word f_is_hand d_is_hand f_is_pair d_is_pair f_is_stamp d_is_stamp f_is_row d_is_row f_is_rights d_is_rights f_is_told_rise d_is_told_rise f_is_heard d_is_heard f_tap d_tap f_take d_take f_odd d_odd f_bend d_bend f_towns d_towns f_seats d_seats f_twos d_twos f_row d_row f_lot d_lot f_news d_news f_number d_number f_word d_word f_hand d_hand f_pair d_pair f_own_is_row d_own_is_row f_rise d_rise f_is_lot d_is_lot f_is_triple d_is_triple f_is_news d_is_news f_things d_things f_great d_great) (F0 : Fun K "is_row" "is_row" st_is_row f fd) (F_is_tuple_of : FnG P w K mg base (L2.CX P w) 1 f_is_tuple_of d_is_tuple_of ["thing", "many"] (spI K XR 2 Lw.fn_is_tuple_of)) (F_is_pair : FnG P w K mg base (L2.CX P w) 3 f_is_pair d_is_pair ["thing"] (spI K XR 1 Lw.fn_is_pair)) (F_is_stamp : FnG P w K mg base (L2.CX P w) 2 f_is_stamp d_is_stamp ["thing"] (spI K XR 1 Lw.fn_is_stamp)) (F_is_word : FnG P w K mg base (L2.CX P w) 1 f_is_word d_is_word ["thing"] (spI K XR 1 Lw.fn_is_word)) (F_is_count : FnG P w K mg base (L2.CX P w) 1 f_is_count d_is_count ["thing"] (spI K XR 1 Lw.fn_is_count)) : FnG P w K mg base (L2.CX P w) 4 f fd ["thing"] (spI K XR 1 Lw.fn_is_row) := by
  refine okI (N := ["thing", "pair", "stamp", "place", "giver", "rise", "free", "here"]) (ps := ["thing"]) (k := 3) (body := Lw.m_is_row) [false] F0 sc_is_row rfl (by decide) fun cdv A outer s H E hg hr => ?_
  have hu := hr.units
  have hu1 := hr.units1
  have tk : Takes (cxOf (L2.CX P w) P w K mg base ["thing", "pair", "stamp", "place", "giver", "rise", "free", "here"] "is_row" (defScope st_is_row) f cdv A outer s H E) (fun cls d _ H' => E cls d H') := takes_of rfl rfl rfl rfl
  exact ss_cons (s_if (t_not (t_tru (d_of_o (o_fn F_is_tuple_of hg (hr.mono (by decide)) s_is_row_is_tuple_of Z.g_is_tuple_of Z.k_is_tuple_of Z.b_is_tuple_of tk (l_cons (a_of_d (d_name (pe_var (i := 0) rfl (.inl s_is_row_thing)))) (l_cons (a_of_d (d_int)) (l_nil))) rfl (ll_cons (ll_cons (ll_nil))))))) (ss_one (s_ret (o_of_d (d_bool)))) (ss_nil)) (ss_cons (s_un (n := 8) (d_name (pe_var (i := 0) rfl (.inl s_is_row_thing))) (pg_tup (n := 7) rfl (pgs_cons (pg_name (i := 1) sc_is_row.nd rfl (.inl s_is_row_pair)) (pgs_cons (pg_name (i := 2) sc_is_row.nd rfl (.inl s_is_row_stamp)) (pgs_cons (pg_name (i := 3) sc_is_row.nd rfl (.inl s_is_row_place)) (pgs_cons (pg_name (i := 4) sc_is_row.nd rfl (.inl s_is_row_giver)) (pgs_cons (pg_name (i := 5) sc_is_row.nd rfl (.inl s_is_row_rise)) (pgs_cons (pg_name (i := 6) sc_is_row.nd rfl (.inl s_is_row_free)) (pgs_cons (pg_name (i := 7) sc_is_row.nd rfl (.inl s_is_row_here)) (pgs_nil))))))))) (g_tup (.cons (g_name) (.cons (g_name) (.cons (g_name) (.cons (g_name) (.cons (g_name) (.cons (g_name) (.cons (g_name) (.nil)))))))))) (ss_cons (s_if (t_not (t_w (w_and (t_tru (d_of_o (o_fn F_is_pair hg (hr.mono (by decide)) s_is_row_is_pair Z.g_is_pair Z.k_is_pair Z.b_is_pair tk (l_cons (a_of_d (d_name (pe_var (i := 1) rfl (.inl s_is_row_pair)))) (l_nil)) rfl (ll_cons (ll_nil))))) (w_and (t_tru (d_of_o (o_fn F_is_stamp hg (hr.mono (by decide)) s_is_row_is_stamp Z.g_is_stamp Z.k_is_stamp Z.b_is_stamp tk (l_cons (a_of_d (d_name (pe_var (i := 2) rfl (.inl s_is_row_stamp)))) (l_nil)) rfl (ll_cons (ll_nil))))) (w_and (t_tru (d_of_o (o_fn F_is_word hg (hr.mono (by decide)) s_is_row_is_word Z.g_is_word Z.k_is_word Z.b_is_word tk (l_cons (a_of_d (d_name (pe_var (i := 3) rfl (.inl s_is_row_place)))) (l_nil)) rfl (ll_cons (ll_nil))))) (w_one1 (t_tru (d_of_o (o_fn F_is_word hg (hr.mono (by decide)) s_is_row_is_word Z.g_is_word Z.k_is_word Z.b_is_word tk (l_cons (a_of_d (d_name (pe_var (i := 4) rfl (.inl s_is_row_giver)))) (l_nil)) rfl (ll_cons (ll_nil))))))))))) (ss_one (s_ret (o_of_d (d_bool)))) (ss_nil)) (ss_one (s_ret (o_of_d (d_and (d_of_o (o_fn F_is_count hg (hr.mono (by decide)) s_is_row_is_count Z.g_is_count Z.k_is_count Z.b_is_count tk (l_cons (a_of_d (d_name (pe_var (i := 5) rfl (.inl s_is_row_rise)))) (l_nil)) rfl (ll_cons (ll_nil)))) (d_and (d_of_o (o_fn F_is_count hg (hr.mono (by decide)) s_is_row_is_count Z.g_is_count Z.k_is_count Z.b_is_count tk (l_cons (a_of_d (d_name (pe_var (i := 6) rfl (.inl s_is_row_free)))) (l_nil)) rfl (ll_cons (ll_nil)))) (d_one (d_tyIs s_is_row_type Z.n_type s_is_row_bool Z.n_bool (by decide +kernel) (a_name (pe_var (i := 7) rfl (.inl s_is_row_here))))))))))))
theorem ok_is_rights {f : Addr} {fd : FuncData} (Z : Zs K mg f_is_count d_is_count f_is_tuple_of d_is_tuple_of f_rises d_rises f_is_word d_is_word f_is_hand d_is_hand f_is_pair d_is_pair f_is_stamp d_is_stamp f_is_row d_is_row f_is_rights d_is_rights f_is_told_rise d_is_told_rise f_is_heard d_is_heard f_tap d_tap f_take d_take f_odd d_odd f_bend d_bend f_towns d_towns f_seats d_seats f_twos d_twos f_row d_row f_lot d_lot f_news d_news f_number d_number f_word d_word f_hand d_hand f_pair d_pair f_own_is_row d_own_is_row f_rise d_rise f_is_lot d_is_lot f_is_triple d_is_triple f_is_news d_is_news f_things d_things f_great d_great) (F0 : Fun K "is_rights" "is_rights" st_is_rights f fd) (F_is_tuple_of : FnG P w K mg base (L2.CX P w) 1 f_is_tuple_of d_is_tuple_of ["thing", "many"] (spI K XR 2 Lw.fn_is_tuple_of)) (F_is_count : FnG P w K mg base (L2.CX P w) 1 f_is_count d_is_count ["thing"] (spI K XR 1 Lw.fn_is_count)) (F_is_row : FnG P w K mg base (L2.CX P w) 4 f_is_row d_is_row ["thing"] (spI K XR 1 Lw.fn_is_row)) (F_rises : FnG P w K mg base (L2.CX P w) 1 f_rises d_rises ["keys"] (spI K XR 1 Lw.fn_rises)) : FnG P w K mg base (L2.CX P w) 5 f fd ["thing"] (spI K XR 1 Lw.fn_is_rights) := by
  refine okI (N := ["thing", "turn", "floor", "rows", "row"]) (ps := ["thing"]) (k := 4) (body := Lw.m_is_rights) [false] F0 sc_is_rights rfl (by decide) fun cdv A outer s H E hg hr => ?_
  have hu := hr.units
  have hu1 := hr.units1
  have tk : Takes (cxOf (L2.CX P w) P w K mg base ["thing", "turn", "floor", "rows", "row"] "is_rights" (defScope st_is_rights) f cdv A outer s H E) (fun cls d _ H' => E cls d H') := takes_of rfl rfl rfl rfl
  exact ss_cons (s_if (t_not (t_tru (d_of_o (o_fn F_is_tuple_of hg (hr.mono (by decide)) s_is_rights_is_tuple_of Z.g_is_tuple_of Z.k_is_tuple_of Z.b_is_tuple_of tk (l_cons (a_of_d (d_name (pe_var (i := 0) rfl (.inl s_is_rights_thing)))) (l_cons (a_of_d (d_int)) (l_nil))) rfl (ll_cons (ll_cons (ll_nil))))))) (ss_one (s_ret (o_of_d (d_bool)))) (ss_nil)) (ss_cons (s_un (n := 5) (d_name (pe_var (i := 0) rfl (.inl s_is_rights_thing))) (pg_tup (n := 3) rfl (pgs_cons (pg_name (i := 1) sc_is_rights.nd rfl (.inl s_is_rights_turn)) (pgs_cons (pg_name (i := 2) sc_is_rights.nd rfl (.inl s_is_rights_floor)) (pgs_cons (pg_name (i := 3) sc_is_rights.nd rfl (.inl s_is_rights_rows)) (pgs_nil))))) (g_tup (.cons (g_name) (.cons (g_name) (.cons (g_name) (.nil)))))) (ss_cons (s_if (t_not (t_w (w_and (t_tru (d_of_o (o_fn F_is_count hg (hr.mono (by decide)) s_is_rights_is_count Z.g_is_count Z.k_is_count Z.b_is_count tk (l_cons (a_of_d (d_name (pe_var (i := 1) rfl (.inl s_is_rights_turn)))) (l_nil)) rfl (ll_cons (ll_nil))))) (w_and (t_tru (d_of_o (o_fn F_is_count hg (hr.mono (by decide)) s_is_rights_is_count Z.g_is_count Z.k_is_count Z.b_is_count tk (l_cons (a_of_d (d_name (pe_var (i := 2) rfl (.inl s_is_rights_floor)))) (l_nil)) rfl (ll_cons (ll_nil))))) (w_one1 (t_tyIs s_is_rights_type Z.n_type s_is_rights_tuple Z.n_tuple (by decide +kernel) (a_name (pe_var (i := 3) rfl (.inl s_is_rights_rows))))))))) (ss_one (s_ret (o_of_d (d_bool)))) (ss_nil)) (ss_one (s_ret (o_of_d (d_and (d_of_o (o_call (co_all rfl) s_is_rights_all Z.n_all b_all (l_cons (a_of_d (d_of_o (o_comp (n := 5) (own := [("row", 4)]) rfl sc_is_rights.nd (i_seq (d_name (pe_var (i := 3) rfl (.inl s_is_rights_rows)))) (blkOk_by (N := ["thing", "turn", "floor", "rows", "row"]) (sc := defScope st_is_rights) (own := [("row", 4)]) (by decide +kernel)) (fun _ _ _ _ _ => pg_name (i := 4) sc_is_rights.nd rfl (.inl rfl)) (g_name) (fun _ _ _ _ _ => c_none) (fun _ _ _ _ _ => d_of_o (o_fn F_is_row hg (hr.mono (by decide)) (blk_gl (sc := defScope st_is_rights) rfl rfl (by decide +kernel)) Z.g_is_row Z.k_is_row Z.b_is_row takes0 (l_cons (a_of_d (d_name (pe_var (i := 4) rfl (.inl rfl)))) (l_nil)) rfl (ll_cons (ll_nil))))))) (l_nil)))) (d_one (d_of_o (o_fn F_rises hg (hr.mono (by decide)) s_is_rights_rises Z.g_rises Z.k_rises Z.b_rises tk (l_cons (a_of_d (d_of_o (o_comp (n := 5) (own := [("row", 4)]) rfl sc_is_rights.nd (i_seq (d_name (pe_var (i := 3) rfl (.inl s_is_rights_rows)))) (blkOk_by (N := ["thing", "turn", "floor", "rows", "row"]) (sc := defScope st_is_rights) (own := [("row", 4)]) (by decide +kernel)) (fun _ _ _ _ _ => pg_name (i := 4) sc_is_rights.nd rfl (.inl rfl)) (g_name) (fun _ _ _ _ _ => c_none) (fun _ _ _ _ _ => d_ix (a_name (pe_var (i := 4) rfl (.inl rfl))) (a_of_d (d_int)) (fun _ _ => rfl))))) (l_nil)) rfl (ll_cons (ll_nil)))))))))))
theorem ok_is_told_rise {f : Addr} {fd : FuncData} (Z : Zs K mg f_is_count d_is_count f_is_tuple_of d_is_tuple_of f_rises d_rises f_is_word d_is_word f_is_hand d_is_hand f_is_pair d_is_pair f_is_stamp d_is_stamp f_is_row d_is_row f_is_rights d_is_rights f_is_told_rise d_is_told_rise f_is_heard d_is_heard f_tap d_tap f_take d_take f_odd d_odd f_bend d_bend f_towns d_towns f_seats d_seats f_twos d_twos f_row d_row f_lot d_lot f_news d_news f_number d_number f_word d_word f_hand d_hand f_pair d_pair f_own_is_row d_own_is_row f_rise d_rise f_is_lot d_is_lot f_is_triple d_is_triple f_is_news d_is_news f_things d_things f_great d_great) (F0 : Fun K "is_told_rise" "is_told_rise" st_is_told_rise f fd) (F_is_tuple_of : FnG P w K mg base (L2.CX P w) 1 f_is_tuple_of d_is_tuple_of ["thing", "many"] (spI K XR 2 Lw.fn_is_tuple_of)) (F_is_word : FnG P w K mg base (L2.CX P w) 1 f_is_word d_is_word ["thing"] (spI K XR 1 Lw.fn_is_word)) (F_is_count : FnG P w K mg base (L2.CX P w) 1 f_is_count d_is_count ["thing"] (spI K XR 1 Lw.fn_is_count)) : FnG P w K mg base (L2.CX P w) 2 f fd ["thing"] (spI K XR 1 Lw.fn_is_told_rise) := by
  refine okI (N := ["thing"]) (ps := ["thing"]) (k := 1) (body := Lw.m_is_told_rise) [false] F0 sc_is_told_rise rfl (by decide) fun cdv A outer s H E hg hr => ?_
  have hu := hr.units
  have hu1 := hr.units1
  have tk : Takes (cxOf (L2.CX P w) P w K mg base ["thing"] "is_told_rise" (defScope st_is_told_rise) f cdv A outer s H E) (fun cls d _ H' => E cls d H') := takes_of rfl rfl rfl rfl
  exact ss_one (s_ret (o_of_d (d_and (d_of_o (o_fn F_is_tuple_of hg (hr.mono (by decide)) s_is_told_rise_is_tuple_of Z.g_is_tuple_of Z.k_is_tuple_of Z.b_is_tuple_of tk (l_cons (a_of_d (d_name (pe_var (i := 0) rfl (.inl s_is_told_rise_thing)))) (l_cons (a_of_d (d_int)) (l_nil))) rfl (ll_cons (ll_cons (ll_nil))))) (d_and (d_of_o (o_fn F_is_word hg (hr.mono (by decide)) s_is_told_rise_is_word Z.g_is_word Z.k_is_word Z.b_is_word tk (l_cons (a_of_d (d_ix (a_name (pe_var (i := 0) rfl (.inl s_is_told_rise_thing))) (a_of_d (d_int)) (fun _ _ => rfl))) (l_nil)) rfl (ll_cons (ll_nil)))) (d_and (d_of_o (o_fn F_is_count hg (hr.mono (by decide)) s_is_told_rise_is_count Z.g_is_count Z.k_is_count Z.b_is_count tk (l_cons (a_of_d (d_ix (a_name (pe_var (i := 0) rfl (.inl s_is_told_rise_thing))) (a_of_d (d_int)) (fun _ _ => rfl))) (l_nil)) rfl (ll_cons (ll_nil)))) (d_one (d_of_o (o_fn F_is_count hg (hr.mono (by decide)) s_is_told_rise_is_count Z.g_is_count Z.k_is_count Z.b_is_count tk (l_cons (a_of_d (d_ix (a_name (pe_var (i := 0) rfl (.inl s_is_told_rise_thing))) (a_of_d (d_int)) (fun _ _ => rfl))) (l_nil)) rfl (ll_cons (ll_nil))))))))))
theorem ok_is_heard {f : Addr} {fd : FuncData} (Z : Zs K mg f_is_count d_is_count f_is_tuple_of d_is_tuple_of f_rises d_rises f_is_word d_is_word f_is_hand d_is_hand f_is_pair d_is_pair f_is_stamp d_is_stamp f_is_row d_is_row f_is_rights d_is_rights f_is_told_rise d_is_told_rise f_is_heard d_is_heard f_tap d_tap f_take d_take f_odd d_odd f_bend d_bend f_towns d_towns f_seats d_seats f_twos d_twos f_row d_row f_lot d_lot f_news d_news f_number d_number f_word d_word f_hand d_hand f_pair d_pair f_own_is_row d_own_is_row f_rise d_rise f_is_lot d_is_lot f_is_triple d_is_triple f_is_news d_is_news f_things d_things f_great d_great) (F0 : Fun K "is_heard" "is_heard" st_is_heard f fd) (F_is_told_rise : FnG P w K mg base (L2.CX P w) 2 f_is_told_rise d_is_told_rise ["thing"] (spI K XR 1 Lw.fn_is_told_rise)) (F_rises : FnG P w K mg base (L2.CX P w) 1 f_rises d_rises ["keys"] (spI K XR 1 Lw.fn_rises)) : FnG P w K mg base (L2.CX P w) 3 f fd ["thing"] (spI K XR 1 Lw.fn_is_heard) := by
  refine okI (N := ["thing", "told"]) (ps := ["thing"]) (k := 2) (body := Lw.m_is_heard) [false] F0 sc_is_heard rfl (by decide) fun cdv A outer s H E hg hr => ?_
  have hu := hr.units
  have hu1 := hr.units1
  have tk : Takes (cxOf (L2.CX P w) P w K mg base ["thing", "told"] "is_heard" (defScope st_is_heard) f cdv A outer s H E) (fun cls d _ H' => E cls d H') := takes_of rfl rfl rfl rfl
  exact ss_cons (s_if (t_w (w_or (t_tyNot s_is_heard_type Z.n_type s_is_heard_tuple Z.n_tuple (by decide +kernel) (a_name (pe_var (i := 0) rfl (.inl s_is_heard_thing)))) (w_one2 (t_not (t_tru (d_name (pe_var (i := 0) rfl (.inl s_is_heard_thing)))))))) (ss_one (s_ret (o_of_d (d_bool)))) (ss_nil)) (ss_one (s_ret (o_of_d (d_and (d_of_o (o_call (co_all rfl) s_is_heard_all Z.n_all b_all (l_cons (a_of_d (d_of_o (o_comp (n := 2) (own := [("told", 1)]) rfl sc_is_heard.nd (i_seq (d_name (pe_var (i := 0) rfl (.inl s_is_heard_thing)))) (blkOk_by (N := ["thing", "told"]) (sc := defScope st_is_heard) (own := [("told", 1)]) (by decide +kernel)) (fun _ _ _ _ _ => pg_name (i := 1) sc_is_heard.nd rfl (.inl rfl)) (g_name) (fun _ _ _ _ _ => c_none) (fun _ _ _ _ _ => d_of_o (o_fn F_is_told_rise hg (hr.mono (by decide)) (blk_gl (sc := defScope st_is_heard) rfl rfl (by decide +kernel)) Z.g_is_told_rise Z.k_is_told_rise Z.b_is_told_rise takes0 (l_cons (a_of_d (d_name (pe_var (i := 1) rfl (.inl rfl)))) (l_nil)) rfl (ll_cons (ll_nil))))))) (l_nil)))) (d_one (d_of_o (o_fn F_rises hg (hr.mono (by decide)) s_is_heard_rises Z.g_rises Z.k_rises Z.b_rises tk (l_cons (a_of_d (d_of_o (o_comp (n := 2) (own := [("told", 1)]) rfl sc_is_heard.nd (i_seq (d_name (pe_var (i := 0) rfl (.inl s_is_heard_thing)))) (blkOk_by (N := ["thing", "told"]) (sc := defScope st_is_heard) (own := [("told", 1)]) (by decide +kernel)) (fun _ _ _ _ _ => pg_name (i := 1) sc_is_heard.nd rfl (.inl rfl)) (g_name) (fun _ _ _ _ _ => c_none) (fun _ _ _ _ _ => d_ix (a_name (pe_var (i := 1) rfl (.inl rfl))) (a_of_d (d_int)) (fun _ _ => rfl))))) (l_nil)) rfl (ll_cons (ll_nil)))))))))
theorem ok_tap {f : Addr} {fd : FuncData} (Z : Zs K mg f_is_count d_is_count f_is_tuple_of d_is_tuple_of f_rises d_rises f_is_word d_is_word f_is_hand d_is_hand f_is_pair d_is_pair f_is_stamp d_is_stamp f_is_row d_is_row f_is_rights d_is_rights f_is_told_rise d_is_told_rise f_is_heard d_is_heard f_tap d_tap f_take d_take f_odd d_odd f_bend d_bend f_towns d_towns f_seats d_seats f_twos d_twos f_row d_row f_lot d_lot f_news d_news f_number d_number f_word d_word f_hand d_hand f_pair d_pair f_own_is_row d_own_is_row f_rise d_rise f_is_lot d_is_lot f_is_triple d_is_triple f_is_news d_is_news f_things d_things f_great d_great) (F0 : Fun K "_law_tap" "_law_tap" st_tap f fd)  : FnG P w K mg base (L2.CX P w) 1 f fd ["script"] (spI K XR 1 Lw.fn_tap) := by
  refine okI (N := ["script"]) (ps := ["script"]) (k := 0) (body := Lw.m_tap) [false] F0 sc_tap rfl (by decide) fun cdv A outer s H E hg hr => ?_
  have hu := hr.units
  have hu1 := hr.units1
  have tk : Takes (cxOf (L2.CX P w) P w K mg base ["script"] "_law_tap" (defScope st_tap) f cdv A outer s H E) (fun cls d _ H' => E cls d H') := takes_of rfl rfl rfl rfl
  exact ss_one (s_ret (o_disp (pp_cons (d_of_o (o_callTy co_list s_tap_list Z.n_list b_list (l_cons (a_of_d (d_of_o (o_scr (pe_var (i := 0) rfl (.inl s_tap_script)) (pt_none) (pt_some (d_int))))) (l_nil)))) (pp_cons (d_int) (pp_cons (d_int) (pp_cons (d_int) (pp_nil)))))))
theorem ok_take {f : Addr} {fd : FuncData} (Z : Zs K mg f_is_count d_is_count f_is_tuple_of d_is_tuple_of f_rises d_rises f_is_word d_is_word f_is_hand d_is_hand f_is_pair d_is_pair f_is_stamp d_is_stamp f_is_row d_is_row f_is_rights d_is_rights f_is_told_rise d_is_told_rise f_is_heard d_is_heard f_tap d_tap f_take d_take f_odd d_odd f_bend d_bend f_towns d_towns f_seats d_seats f_twos d_twos f_row d_row f_lot d_lot f_news d_news f_number d_number f_word d_word f_hand d_hand f_pair d_pair f_own_is_row d_own_is_row f_rise d_rise f_is_lot d_is_lot f_is_triple d_is_triple f_is_news d_is_news f_things d_things f_great d_great) (F0 : Fun K "_law_take" "_law_take" st_take f fd)  : FnG P w K mg base (L2.CX P w) 1 f fd ["tap", "many"] (spI K XR 2 Lw.fn_take) := by
  refine okI (N := ["tap", "many", "calls", "figure", "spot", "cells", "cell", "once"]) (ps := ["tap", "many"]) (k := 0) (body := Lw.m_take) [true, false] F0 sc_take rfl (by decide) fun cdv A outer s H E hg hr => ?_
  have hu := hr.units
  have hu1 := hr.units1
  have tk : Takes (cxOf (L2.CX P w) P w K mg base ["tap", "many", "calls", "figure", "spot", "cells", "cell", "once"] "_law_take" (defScope st_take) f cdv A outer s H E) (fun cls d _ H' => E cls d H') := takes_of rfl rfl rfl rfl
  exact ss_cons (s_set (i := 2) sc_take.nd rfl (.inl s_take_calls) (o_op ao_add (a_of_d (d_dget hu1 (pe_var (i := 0) rfl (.inl s_take_tap)) (d_str) (fun _ _ => rfl))) (a_of_d (d_int)))) (ss_cons (s_put hu1 (pe_var (i := 0) rfl (.inl s_take_tap)) (d_str) (d_name (pe_var (i := 2) rfl (.inl s_take_calls)))) (ss_cons (s_if (t_cmp (od_gt hu) (a_of_d (d_dget hu1 (pe_var (i := 0) rfl (.inl s_take_tap)) (d_str) (fun _ _ => rfl))) (a_of_d (d_int))) (ss_cons (s_set (i := 3) sc_take.nd rfl (.inl s_take_figure) (o_of_d (d_op od_mod (a_of_d (d_dget hu1 (pe_var (i := 0) rfl (.inl s_take_tap)) (d_str) (fun _ _ => rfl))) (a_name (pe_var (i := 1) rfl (.inl s_take_many)))))) (ss_cons (s_put hu1 (pe_var (i := 0) rfl (.inl s_take_tap)) (d_str) (d_op od_floor (a_of_d (d_dget hu1 (pe_var (i := 0) rfl (.inl s_take_tap)) (d_str) (fun _ _ => rfl))) (a_name (pe_var (i := 1) rfl (.inl s_take_many))))) (ss_one (s_ret (o_take (pe_var (i := 3) rfl (.inl s_take_figure))))))) (ss_nil)) (ss_cons (s_set (i := 4) sc_take.nd rfl (.inl s_take_spot) (o_of_d (d_dget hu1 (pe_var (i := 0) rfl (.inl s_take_tap)) (d_str) (fun _ _ => rfl)))) (ss_cons (s_put hu1 (pe_var (i := 0) rfl (.inl s_take_tap)) (d_str) (d_of_o (o_op ao_add (a_name (pe_var (i := 4) rfl (.inl s_take_spot))) (a_of_d (d_int))))) (ss_cons (s_set (i := 5) sc_take.nd rfl (.inl s_take_cells) (o_of_d (d_dget hu1 (pe_var (i := 0) rfl (.inl s_take_tap)) (d_str) (fun _ _ => rfl)))) (ss_cons (s_set (i := 6) sc_take.nd rfl (.inl s_take_cell) (o_if (t_cmp (od_gt hu) (a_of_d (d_of_o (o_call co_len s_take_len Z.n_len b_len (l_cons (a_name (pe_var (i := 5) rfl (.inl s_take_cells))) (l_nil))))) (a_of_d (d_int))) (o_of_d (d_ix (a_name (pe_var (i := 5) rfl (.inl s_take_cells))) (a_of_d (d_op od_mod (a_name (pe_var (i := 4) rfl (.inl s_take_spot))) (a_of_d (d_of_o (o_call co_len s_take_len Z.n_len b_len (l_cons (a_name (pe_var (i := 5) rfl (.inl s_take_cells))) (l_nil))))))) (fun _ _ => rfl))) (o_of_d (d_int)))) (ss_cons (s_if (t_w (w_and (t_cmp (od_lt hu) (a_name (pe_var (i := 4) rfl (.inl s_take_spot))) (a_of_d (d_of_o (o_call co_len s_take_len Z.n_len b_len (l_cons (a_name (pe_var (i := 5) rfl (.inl s_take_cells))) (l_nil)))))) (w_one1 (t_cmp (od_ge hu) (a_name (pe_var (i := 6) rfl (.inl s_take_cell))) (a_of_d (d_op od_pow (a_of_d (d_int)) (a_of_d (d_int)))))))) (ss_cons (s_put hu1 (pe_var (i := 0) rfl (.inl s_take_tap)) (d_str) (d_op od_floor (a_name (pe_var (i := 6) rfl (.inl s_take_cell))) (a_name (pe_var (i := 1) rfl (.inl s_take_many))))) (ss_one (s_ret (o_of_d (d_op od_mod (a_name (pe_var (i := 6) rfl (.inl s_take_cell))) (a_name (pe_var (i := 1) rfl (.inl s_take_many)))))))) (ss_nil)) (ss_cons (s_set (i := 7) sc_take.nd rfl (.inl s_take_once) (o_of_d (d_op od_mod (a_of_d (d_op od_pow (a_of_d (d_of_o (o_op ao_add (a_of_d (d_of_o (o_op ao_add (a_of_d (d_op od_mod (a_name (pe_var (i := 6) rfl (.inl s_take_cell))) (a_of_d (d_int)))) (a_of_d (d_of_o (o_op ao_mul (a_of_d (d_int)) (a_name (pe_var (i := 2) rfl (.inl s_take_calls))))))))) (a_of_d (d_int))))) (a_of_d (d_int)))) (a_of_d (d_int))))) (ss_one (s_ret (o_of_d (d_op od_mod (a_of_d (d_op od_floor (a_of_d (d_op od_mod (a_of_d (d_op od_pow (a_of_d (d_of_o (o_op ao_add (a_name (pe_var (i := 7) rfl (.inl s_take_once))) (a_of_d (d_of_o (o_op ao_mul (a_of_d (d_of_o (o_op ao_mul (a_of_d (d_int)) (a_name (pe_var (i := 2) rfl (.inl s_take_calls)))))) (a_name (pe_var (i := 2) rfl (.inl s_take_calls))))))))) (a_of_d (d_int)))) (a_of_d (d_int)))) (a_of_d (d_int)))) (a_name (pe_var (i := 1) rfl (.inl s_take_many)))))))))))))))
theorem ok_odd {f : Addr} {fd : FuncData} (Z : Zs K mg f_is_count d_is_count f_is_tuple_of d_is_tuple_of f_rises d_rises f_is_word d_is_word f_is_hand d_is_hand f_is_pair d_is_pair f_is_stamp d_is_stamp f_is_row d_is_row f_is_rights d_is_rights f_is_told_rise d_is_told_rise f_is_heard d_is_heard f_tap d_tap f_take d_take f_odd d_odd f_bend d_bend f_towns d_towns f_seats d_seats f_twos d_twos f_row d_row f_lot d_lot f_news d_news f_number d_number f_word d_word f_hand d_hand f_pair d_pair f_own_is_row d_own_is_row f_rise d_rise f_is_lot d_is_lot f_is_triple d_is_triple f_is_news d_is_news f_things d_things f_great d_great) (F0 : Fun K "_law_odd" "_law_odd" st_odd f fd) (F_take : FnG P w K mg base (L2.CX P w) 1 f_take d_take ["tap", "many"] (spI K XR 2 Lw.fn_take)) : FnG P w K mg base (L2.CX P w) 2 f fd ["tap"] (spI K XR 1 Lw.fn_odd) := by
  refine okI (N := ["tap", "some"]) (ps := ["tap"]) (k := 1) (body := Lw.m_odd) [true] F0 sc_odd rfl (by decide) fun cdv A outer s H E hg hr => ?_
  have hu := hr.units
  have hu1 := hr.units1
  have tk : Takes (cxOf (L2.CX P w) P w K mg base ["tap", "some"] "_law_odd" (defScope st_odd) f cdv A outer s H E) (fun cls d _ H' => E cls d H') := takes_of rfl rfl rfl rfl
  exact ss_cons (s_set (i := 1) sc_odd.nd rfl (.inl s_odd_some) (o_lst (l_cons (a_of_d (d_none)) (l_cons (a_of_d (d_bool)) (l_cons (a_of_d (d_bool)) (l_cons (a_of_d (d_int)) (l_cons (a_of_d (d_int)) (l_cons (a_of_d (d_neg (d_int))) (l_cons (a_of_d (d_op od_pow (a_of_d (d_int)) (a_of_d (d_int)))) (l_cons (a_of_d (d_str)) (l_cons (a_of_d (d_str)) (l_cons (a_of_d (d_str)) (l_cons (a_of_d (d_str)) (l_cons (a_of_d (d_tup (l_nil))) (l_cons (a_of_d (d_of_o (o_lst (l_nil)))) (l_cons (a_of_d (d_tup (l_cons (a_of_d (d_str)) (l_cons (a_of_d (d_str)) (l_nil))))) (l_cons (a_of_d (d_of_o (o_lst (l_cons (a_of_d (d_str)) (l_nil))))) (l_nil)))))))))))))))))) (ss_cons (s_expr (x_append (pe_var (i := 1) rfl (.inl s_odd_some)) (d_tup (l_cons (a_of_d (d_tup (l_cons (a_of_d (d_str)) (l_cons (a_of_d (d_str)) (l_nil))))) (l_cons (a_of_d (d_tup (l_cons (a_of_d (d_str)) (l_cons (a_of_d (d_str)) (l_nil))))) (l_nil)))))) (ss_one (s_ret (o_of_d (d_ix (a_name (pe_var (i := 1) rfl (.inl s_odd_some))) (a_of_d (d_of_o (o_fnO F_take hg (hr.mono (by decide)) s_odd__law_take Z.g_take Z.k_take Z.b_take tk (l_cons (a_name (pe_var (i := 0) rfl (.inl s_odd_tap))) (l_cons (a_of_d (d_int)) (l_nil))) rfl (ll_cons (ll_cons (ll_nil)))))) (fun _ _ => rfl))))))
theorem ok_bend (Z : Zs K mg f_is_count d_is_count f_is_tuple_of d_is_tuple_of f_rises d_rises f_is_word d_is_word f_is_hand d_is_hand f_is_pair d_is_pair f_is_stamp d_is_stamp f_is_row d_is_row f_is_rights d_is_rights f_is_told_rise d_is_told_rise f_is_heard d_is_heard f_tap d_tap f_take d_take f_odd d_odd f_bend d_bend f_towns d_towns f_seats d_seats f_twos d_twos f_row d_row f_lot d_lot f_news d_news f_number d_number f_word d_word f_hand d_hand f_pair d_pair f_own_is_row d_own_is_row f_rise d_rise f_is_lot d_is_lot f_is_triple d_is_triple f_is_news d_is_news f_things d_things f_great d_great) (F0 : Fun K "_law_bend" "_law_bend" st_bend f_bend d_bend) (F_take : FnG P w K mg base (L2.CX P w) 1 f_take d_take ["tap", "many"] (spI K XR 2 Lw.fn_take)) (F_odd : FnG P w K mg base (L2.CX P w) 2 f_odd d_odd ["tap"] (spI K XR 1 Lw.fn_odd)) : ∀ n : Nat, FnG P w K mg base (L2.CX P w) (3 + n) f_bend d_bend ["tap", "thing", "deep"] (spI K XR 3 (Lw.fn_bend n))
  | 0 => fnG_bad rfl
  | n + 1 => by
    have F_bend := ok_bend Z F0 F_take F_odd n
    refine okI (N := ["tap", "thing", "deep", "at", "way"]) (ps := ["tap", "thing", "deep"]) (k := 3 + n) (body := Lw.m_bend (Lw.fn_bend n)) [true, false, false] F0 sc_bend rfl (by decide) fun cdv A outer s H E hg hr => ?_
    have hu := hr.units
    have hu1 := hr.units1
    have tk : Takes (cxOf (L2.CX P w) P w K mg base ["tap", "thing", "deep", "at", "way"] "_law_bend" (defScope st_bend) f_bend cdv A outer s H E) (fun cls d _ H' => E cls d H') := takes_of rfl rfl rfl rfl
    exact ss_cons (s_if (t_w (w_and (t_tru (d_isi s_bend_isinstance Z.n_isinstance s_bend_tuple Z.n_tuple (by decide +kernel) (a_name (pe_var (i := 1) rfl (.inl s_bend_thing))))) (w_and (t_cmp (od_ne hu) (a_name (pe_var (i := 1) rfl (.inl s_bend_thing))) (a_of_d (d_tup (l_nil)))) (w_and (t_cmp (od_gt hu) (a_name (pe_var (i := 2) rfl (.inl s_bend_deep))) (a_of_d (d_int))) (w_one1 (t_cmp (od_gt hu) (a_of_d (d_of_o (o_fnO F_take hg (hr.mono (by omega)) s_bend__law_take Z.g_take Z.k_take Z.b_take tk (l_cons (a_name (pe_var (i := 0) rfl (.inl s_bend_tap))) (l_cons (a_of_d (d_int)) (l_nil))) rfl (ll_cons (ll_cons (ll_nil)))))) (a_of_d (d_int)))))))) (ss_cons (s_set (i := 3) sc_bend.nd rfl (.inl s_bend_at) (o_fnO F_take hg (hr.mono (by omega)) s_bend__law_take Z.g_take Z.k_take Z.b_take tk (l_cons (a_name (pe_var (i := 0) rfl (.inl s_bend_tap))) (l_cons (a_of_d (d_of_o (o_call co_len s_bend_len Z.n_len b_len (l_cons (a_name (pe_var (i := 1) rfl (.inl s_bend_thing))) (l_nil))))) (l_nil))) rfl (ll_cons (ll_cons (ll_nil))))) (ss_one (s_ret (o_op ao_addB (a_of_d (d_of_o (o_op ao_addB (a_of_d (d_of_o (o_sl (a_name (pe_var (i := 1) rfl (.inl s_bend_thing))) (pt_none) (pt_some (d_name (pe_var (i := 3) rfl (.inl s_bend_at))))))) (a_of_d (d_tup (l_cons (a_of_d (d_of_o (o_fnO F_bend hg (hr.mono (by omega)) s_bend__law_bend Z.g_bend Z.k_bend Z.b_bend tk (l_cons (a_name (pe_var (i := 0) rfl (.inl s_bend_tap))) (l_cons (a_of_d (d_ix (a_name (pe_var (i := 1) rfl (.inl s_bend_thing))) (a_name (pe_var (i := 3) rfl (.inl s_bend_at))) (fun _ _ => rfl))) (l_cons (a_of_d (d_op od_sub (a_name (pe_var (i := 2) rfl (.inl s_bend_deep))) (a_of_d (d_int)))) (l_nil)))) rfl (ll_cons (ll_cons (ll_cons (ll_nil))))))) (l_nil))))))) (a_of_d (d_of_o (o_sl (a_name (pe_var (i := 1) rfl (.inl s_bend_thing))) (pt_some (d_of_o (o_op ao_addB (a_name (pe_var (i := 3) rfl (.inl s_bend_at))) (a_of_d (d_int))))) (pt_none)))))))) (ss_nil)) (ss_cons (s_set (i := 4) sc_bend.nd rfl (.inl s_bend_way) (o_fnO F_take hg (hr.mono (by omega)) s_bend__law_take Z.g_take Z.k_take Z.b_take tk (l_cons (a_name (pe_var (i := 0) rfl (.inl s_bend_tap))) (l_cons (a_of_d (d_int)) (l_nil))) rfl (ll_cons (ll_cons (ll_nil))))) (ss_cons (s_if (t_tru (d_isi s_bend_isinstance Z.n_isinstance s_bend_tuple Z.n_tuple (by decide +kernel) (a_name (pe_var (i := 1) rfl (.inl s_bend_thing))))) (ss_cons (s_set (i := 3) sc_bend.nd rfl (.inl s_bend_at) (o_fnO F_take hg (hr.mono (by omega)) s_bend__law_take Z.g_take Z.k_take Z.b_take tk (l_cons (a_name (pe_var (i := 0) rfl (.inl s_bend_tap))) (l_cons (a_of_d (d_of_o (o_op ao_addB (a_of_d (d_of_o (o_call co_len s_bend_len Z.n_len b_len (l_cons (a_name (pe_var (i := 1) rfl (.inl s_bend_thing))) (l_nil))))) (a_of_d (d_int))))) (l_nil))) rfl (ll_cons (ll_cons (ll_nil))))) (ss_cons (s_if (t_cmp (od_eq hu) (a_name (pe_var (i := 4) rfl (.inl s_bend_way))) (a_of_d (d_int))) (ss_one (s_ret (o_op ao_addB (a_of_d (d_of_o (o_op ao_addB (a_of_d (d_of_o (o_sl (a_name (pe_var (i := 1) rfl (.inl s_bend_thing))) (pt_none) (pt_some (d_name (pe_var (i := 3) rfl (.inl s_bend_at))))))) (a_of_d (d_tup (l_cons (a_of_d (d_of_o (o_fnO F_odd hg (hr.mono (by omega)) s_bend__law_odd Z.g_odd Z.k_odd Z.b_odd tk (l_cons (a_name (pe_var (i := 0) rfl (.inl s_bend_tap))) (l_nil)) rfl (ll_cons (ll_nil))))) (l_nil))))))) (a_of_d (d_of_o (o_sl (a_name (pe_var (i := 1) rfl (.inl s_bend_thing))) (pt_some (d_name (pe_var (i := 3) rfl (.inl s_bend_at)))) (pt_none))))))) (ss_nil)) (ss_cons (s_if (t_cmp (od_lt hu) (a_name (pe_var (i := 4) rfl (.inl s_bend_way))) (a_of_d (d_int))) (ss_one (s_ret (o_of_d (d_ix (a_of_d (d_of_o (o_lst (l_cons (a_of_d (d_of_o (o_callTy co_list s_bend_list Z.n_list b_list (l_cons (a_name (pe_var (i := 1) rfl (.inl s_bend_thing))) (l_nil))))) (l_cons (a_of_d (d_of_o (o_op ao_addB (a_of_d (d_of_o (o_sl (a_name (pe_var (i := 1) rfl (.inl s_bend_thing))) (pt_none) (pt_some (d_name (pe_var (i := 3) rfl (.inl s_bend_at))))))) (a_of_d (d_of_o (o_sl (a_name (pe_var (i := 1) rfl (.inl s_bend_thing))) (pt_some (d_of_o (o_op ao_addB (a_name (pe_var (i := 3) rfl (.inl s_bend_at))) (a_of_d (d_int))))) (pt_none))))))) (l_cons (a_of_d (d_of_o (o_op ao_addB (a_of_d (d_of_o (o_op ao_addB (a_of_d (d_of_o (o_sl (a_name (pe_var (i := 1) rfl (.inl s_bend_thing))) (pt_none) (pt_some (d_name (pe_var (i := 3) rfl (.inl s_bend_at))))))) (a_of_d (d_of_o (o_sl (a_name (pe_var (i := 1) rfl (.inl s_bend_thing))) (pt_some (d_name (pe_var (i := 3) rfl (.inl s_bend_at)))) (pt_some (d_of_o (o_op ao_addB (a_name (pe_var (i := 3) rfl (.inl s_bend_at))) (a_of_d (d_int))))))))))) (a_of_d (d_of_o (o_sl (a_name (pe_var (i := 1) rfl (.inl s_bend_thing))) (pt_some (d_name (pe_var (i := 3) rfl (.inl s_bend_at)))) (pt_none))))))) (l_cons (a_of_d (d_tup (l_nil))) (l_cons (a_of_d (d_of_o (o_rev2 (a_name (pe_var (i := 1) rfl (.inl s_bend_thing)))))) (l_nil))))))))) (a_name (pe_var (i := 4) rfl (.inl s_bend_way))) (fun _ _ => rfl))))) (ss_nil)) (ss_one (s_ret (o_fnO F_odd hg (hr.mono (by omega)) s_bend__law_odd Z.g_odd Z.k_odd Z.b_odd tk (l_cons (a_name (pe_var (i := 0) rfl (.inl s_bend_tap))) (l_nil)) rfl (ll_cons (ll_nil)))))))) (ss_nil)) (ss_cons (s_if (t_w (w_and (t_tru (d_isi s_bend_isinstance Z.n_isinstance s_bend_int Z.n_int (by decide +kernel) (a_name (pe_var (i := 1) rfl (.inl s_bend_thing))))) (w_one1 (t_cmp (od_lt hu) (a_name (pe_var (i := 4) rfl (.inl s_bend_way))) (a_of_d (d_int)))))) (ss_one (s_ret (o_of_d (d_ix (a_of_d (d_of_o (o_lst (l_cons (a_of_d (d_of_o (o_op ao_addB (a_name (pe_var (i := 1) rfl (.inl s_bend_thing))) (a_of_d (d_int))))) (l_cons (a_of_d (d_cmp (od_eq hu) (a_name (pe_var (i := 1) rfl (.inl s_bend_thing))) (a_of_d (d_int)))) (l_cons (a_of_d (d_of_o (o_callTy co_int s_bend_int Z.n_int b_int (l_cons (a_name (pe_var (i := 1) rfl (.inl s_bend_thing))) (l_nil))))) (l_cons (a_of_d (d_of_o (o_callTy co_str s_bend_str Z.n_str b_str (l_cons (a_name (pe_var (i := 1) rfl (.inl s_bend_thing))) (l_nil))))) (l_nil)))))))) (a_name (pe_var (i := 4) rfl (.inl s_bend_way))) (fun _ _ => rfl))))) (ss_nil)) (ss_cons (s_if (t_w (w_and (t_tru (d_isi s_bend_isinstance Z.n_isinstance s_bend_str Z.n_str (by decide +kernel) (a_name (pe_var (i := 1) rfl (.inl s_bend_thing))))) (w_one1 (t_cmp (od_lt hu) (a_name (pe_var (i := 4) rfl (.inl s_bend_way))) (a_of_d (d_int)))))) (ss_one (s_ret (o_of_d (d_ix (a_of_d (d_of_o (o_lst (l_cons (a_of_d (d_of_o (o_op ao_addB (a_name (pe_var (i := 1) rfl (.inl s_bend_thing))) (a_of_d (d_str))))) (l_cons (a_of_d (d_of_o (o_sl (a_name (pe_var (i := 1) rfl (.inl s_bend_thing))) (pt_some (d_int)) (pt_none)))) (l_cons (a_of_d (d_upper (a_name (pe_var (i := 1) rfl (.inl s_bend_thing))) (pe_upper (a_name (pe_var (i := 1) rfl (.inl s_bend_thing)))))) (l_nil))))))) (a_name (pe_var (i := 4) rfl (.inl s_bend_way))) (fun _ _ => rfl))))) (ss_nil)) (ss_one (s_ret (o_fnO F_odd hg (hr.mono (by omega)) s_bend__law_odd Z.g_odd Z.k_odd Z.b_odd tk (l_cons (a_name (pe_var (i := 0) rfl (.inl s_bend_tap))) (l_nil)) rfl (ll_cons (ll_nil)))))))))
theorem ok_towns {f : Addr} {fd : FuncData} (Z : Zs K mg f_is_count d_is_count f_is_tuple_of d_is_tuple_of f_rises d_rises f_is_word d_is_word f_is_hand d_is_hand f_is_pair d_is_pair f_is_stamp d_is_stamp f_is_row d_is_row f_is_rights d_is_rights f_is_told_rise d_is_told_rise f_is_heard d_is_heard f_tap d_tap f_take d_take f_odd d_odd f_bend d_bend f_towns d_towns f_seats d_seats f_twos d_twos f_row d_row f_lot d_lot f_news d_news f_number d_number f_word d_word f_hand d_hand f_pair d_pair f_own_is_row d_own_is_row f_rise d_rise f_is_lot d_is_lot f_is_triple d_is_triple f_is_news d_is_news f_things d_things f_great d_great) (F0 : Fun K "_law_towns" "_law_towns" st_towns f fd) (F_take : FnG P w K mg base (L2.CX P w) 1 f_take d_take ["tap", "many"] (spI K XR 2 Lw.fn_take)) : FnG P w K mg base (L2.CX P w) 2 f fd ["tap", "least"] (spI K XR 2 Lw.fn_towns) := by
  refine okI (N := ["tap", "least", "pool", "many"]) (ps := ["tap", "least"]) (k := 1) (body := Lw.m_towns) [true, false] F0 sc_towns rfl (by decide) fun cdv A outer s H E hg hr => ?_
  have hu := hr.units
  have hu1 := hr.units1
  have tk : Takes (cxOf (L2.CX P w) P w K mg base ["tap", "least", "pool", "many"] "_law_towns" (defScope st_towns) f cdv A outer s H E) (fun cls d _ H' => E cls d H') := takes_of rfl rfl rfl rfl
  exact ss_cons (s_set (i := 2) sc_towns.nd rfl (.inl s_towns_pool) (o_lst (l_cons (a_of_d (d_str)) (l_cons (a_of_d (d_str)) (l_cons (a_of_d (d_str)) (l_cons (a_of_d (d_str)) (l_cons (a_of_d (d_str)) (l_nil)))))))) (ss_cons (s_set (i := 3) sc_towns.nd rfl (.inl s_towns_many) (o_call (co_min rfl hu) s_towns_min Z.n_min b_min (l_cons (a_of_d (d_int)) (l_cons (a_of_d (d_of_o (o_op ao_add (a_name (pe_var (i := 1) rfl (.inl s_towns_least))) (a_of_d (d_of_o (o_fnO F_take hg (hr.mono (by decide)) s_towns__law_take Z.g_take Z.k_take Z.b_take tk (l_cons (a_name (pe_var (i := 0) rfl (.inl s_towns_tap))) (l_cons (a_of_d (d_int)) (l_nil))) rfl (ll_cons (ll_cons (ll_nil))))))))) (l_nil))))) (ss_cons (s_while 100 (passes_of rfl) (t_cmp (od_gt hu) (a_of_d (d_of_o (o_call co_len s_towns_len Z.n_len b_len (l_cons (a_name (pe_var (i := 2) rfl (.inl s_towns_pool))) (l_nil))))) (a_name (pe_var (i := 3) rfl (.inl s_towns_many)))) (ss_one (s_expr (x_popAt (pe_var (i := 2) rfl (.inl s_towns_pool)) (d_of_o (o_fnO F_take hg (hr.mono (by decide)) s_towns__law_take Z.g_take Z.k_take Z.b_take tk (l_cons (a_name (pe_var (i := 0) rfl (.inl s_towns_tap))) (l_cons (a_of_d (d_of_o (o_call co_len s_towns_len Z.n_len b_len (l_cons (a_name (pe_var (i := 2) rfl (.inl s_towns_pool))) (l_nil))))) (l_nil))) rfl (ll_cons (ll_cons (ll_nil))))))))) (ss_one (s_ret (o_take (pe_var (i := 2) rfl (.inl s_towns_pool)))))))
theorem ok_seats {f : Addr} {fd : FuncData} (Z : Zs K mg f_is_count d_is_count f_is_tuple_of d_is_tuple_of f_rises d_rises f_is_word d_is_word f_is_hand d_is_hand f_is_pair d_is_pair f_is_stamp d_is_stamp f_is_row d_is_row f_is_rights d_is_rights f_is_told_rise d_is_told_rise f_is_heard d_is_heard f_tap d_tap f_take d_take f_odd d_odd f_bend d_bend f_towns d_towns f_seats d_seats f_twos d_twos f_row d_row f_lot d_lot f_news d_news f_number d_number f_word d_word f_hand d_hand f_pair d_pair f_own_is_row d_own_is_row f_rise d_rise f_is_lot d_is_lot f_is_triple d_is_triple f_is_news d_is_news f_things d_things f_great d_great) (F0 : Fun K "_law_seats" "_law_seats" st_seats f fd) (F_take : FnG P w K mg base (L2.CX P w) 1 f_take d_take ["tap", "many"] (spI K XR 2 Lw.fn_take)) : FnG P w K mg base (L2.CX P w) 2 f fd ["tap", "towns", "many"] (spI K XR 3 Lw.fn_seats) := by
  refine okI (N := ["tap", "towns", "many", "pool", "found", "place", "k", "word"]) (ps := ["tap", "towns", "many"]) (k := 1) (body := Lw.m_seats) [true, false, false] F0 sc_seats rfl (by decide) fun cdv A outer s H E hg hr => ?_
  have hu := hr.units
  have hu1 := hr.units1
  have tk : Takes (cxOf (L2.CX P w) P w K mg base ["tap", "towns", "many", "pool", "found", "place", "k", "word"] "_law_seats" (defScope st_seats) f cdv A outer s H E) (fun cls d _ H' => E cls d H') := takes_of rfl rfl rfl rfl
  exact ss_cons (s_par rfl sc_seats.nd rfl rfl s_seats_pool s_seats_found (o_lst (l_nil)) (o_lst (l_nil))) (ss_cons (s_for (n := 8) (passes_of rfl) rfl (i_seq (d_name (pe_var (i := 1) rfl (.inl s_seats_towns)))) (pg_name (i := 5) sc_seats.nd rfl (.inr s_seats_place)) (g_name) (ss_one (s_set (i := 3) sc_seats.nd rfl (.inl s_seats_pool) (o_op ao_add (a_name (pe_var (i := 3) rfl (.inl s_seats_pool))) (a_of_d (d_of_o (o_comp (n := 8) (own := [("word", 7)]) rfl sc_seats.nd (i_seq (d_of_o (o_lst (l_cons (a_of_d (d_str)) (l_cons (a_of_d (d_str)) (l_cons (a_of_d (d_str)) (l_nil))))))) (blkOk_by (N := ["tap", "towns", "many", "pool", "found", "place", "k", "word"]) (sc := defScope st_seats) (own := [("word", 7)]) (by decide +kernel)) (fun _ _ _ _ _ => pg_name (i := 7) sc_seats.nd rfl (.inl rfl)) (g_name) (fun _ _ _ _ _ => c_none) (fun _ _ _ _ _ => d_tup (l_cons (a_of_d (d_name (pe_var (i := 5) rfl (.inr (.inl (blk_look (sc := defScope st_seats) rfl (by decide +kernel))))))) (l_cons (a_of_d (d_name (pe_var (i := 7) rfl (.inl rfl)))) (l_nil))))))))))) (ss_cons (s_for (n := 8) (passes_of rfl) rfl (i_range1 s_seats_range Z.n_range (l_cons (a_of_d (d_of_o (o_call (co_min rfl hu) s_seats_min Z.n_min b_min (l_cons (a_name (pe_var (i := 2) rfl (.inl s_seats_many))) (l_cons (a_of_d (d_of_o (o_call co_len s_seats_len Z.n_len b_len (l_cons (a_name (pe_var (i := 3) rfl (.inl s_seats_pool))) (l_nil))))) (l_nil)))))) (l_nil))) (pg_name (i := 6) sc_seats.nd rfl (.inl s_seats_k)) (g_name) (ss_one (s_expr (x_append (pe_var (i := 4) rfl (.inl s_seats_found)) (x_popAt (pe_var (i := 3) rfl (.inl s_seats_pool)) (d_of_o (o_fnO F_take hg (hr.mono (by decide)) s_seats__law_take Z.g_take Z.k_take Z.b_take tk (l_cons (a_name (pe_var (i := 0) rfl (.inl s_seats_tap))) (l_cons (a_of_d (d_of_o (o_call co_len s_seats_len Z.n_len b_len (l_cons (a_name (pe_var (i := 3) rfl (.inl s_seats_pool))) (l_nil))))) (l_nil))) rfl (ll_cons (ll_cons (ll_nil)))))))))) (ss_one (s_ret (o_take (pe_var (i := 4) rfl (.inl s_seats_found)))))))
theorem ok_twos {f : Addr} {fd : FuncData} (Z : Zs K mg f_is_count d_is_count f_is_tuple_of d_is_tuple_of f_rises d_rises f_is_word d_is_word f_is_hand d_is_hand f_is_pair d_is_pair f_is_stamp d_is_stamp f_is_row d_is_row f_is_rights d_is_rights f_is_told_rise d_is_told_rise f_is_heard d_is_heard f_tap d_tap f_take d_take f_odd d_odd f_bend d_bend f_towns d_towns f_seats d_seats f_twos d_twos f_row d_row f_lot d_lot f_news d_news f_number d_number f_word d_word f_hand d_hand f_pair d_pair f_own_is_row d_own_is_row f_rise d_rise f_is_lot d_is_lot f_is_triple d_is_triple f_is_news d_is_news f_things d_things f_great d_great) (F0 : Fun K "_law_twos" "_law_twos" st_twos f fd)  : FnG P w K mg base (L2.CX P w) 1 f fd ["people"] (spI K XR 1 Lw.fn_twos) := by
  refine okI (N := ["people", "found", "k", "other"]) (ps := ["people"]) (k := 0) (body := Lw.m_twos) [false] F0 sc_twos rfl (by decide) fun cdv A outer s H E hg hr => ?_
  have hu := hr.units
  have hu1 := hr.units1
  have tk : Takes (cxOf (L2.CX P w) P w K mg base ["people", "found", "k", "other"] "_law_twos" (defScope st_twos) f cdv A outer s H E) (fun cls d _ H' => E cls d H') := takes_of rfl rfl rfl rfl
  exact ss_cons (s_set (i := 1) sc_twos.nd rfl (.inl s_twos_found) (o_lst (l_nil))) (ss_cons (s_for (n := 4) (passes_of rfl) rfl (i_range1 s_twos_range Z.n_range (l_cons (a_of_d (d_of_o (o_call co_len s_twos_len Z.n_len b_len (l_cons (a_name (pe_var (i := 0) rfl (.inr (.inl s_twos_people)))) (l_nil))))) (l_nil))) (pg_name (i := 2) sc_twos.nd rfl (.inr s_twos_k)) (g_name) (ss_one (s_set (i := 1) sc_twos.nd rfl (.inl s_twos_found) (o_op ao_add (a_name (pe_var (i := 1) rfl (.inl s_twos_found))) (a_of_d (d_of_o (o_comp (n := 4) (own := [("other", 3)]) rfl sc_twos.nd (i_seq (d_of_o (o_sl (a_name (pe_var (i := 0) rfl (.inr (.inl s_twos_people)))) (pt_some (d_of_o (o_op ao_add (a_name (pe_var (i := 2) rfl (.inr (.inl s_twos_k)))) (a_of_d (d_int))))) (pt_none)))) (blkOk_by (N := ["people", "found", "k", "other"]) (sc := defScope st_twos) (own := [("other", 3)]) (by decide +kernel)) (fun _ _ _ _ _ => pg_name (i := 3) sc_twos.nd rfl (.inl rfl)) (g_name) (fun _ _ _ _ _ => c_none) (fun _ _ _ _ _ => d_tup (l_cons (a_of_d (d_of_o (o_call (co_min rfl hu) (blk_gl (sc := defScope st_twos) rfl rfl (by decide +kernel)) Z.n_min b_min (l_cons (a_of_d (d_ix (a_name (pe_var (i := 0) rfl (.inr (.inl (blk_look (sc := defScope st_twos) rfl (by decide +kernel)))))) (a_name (pe_var (i := 2) rfl (.inr (.inl (blk_look (sc := defScope st_twos) rfl (by decide +kernel)))))) (fun _ _ => rfl))) (l_cons (a_name (pe_var (i := 3) rfl (.inl rfl))) (l_nil)))))) (l_cons (a_of_d (d_of_o (o_call (co_max rfl hu) (blk_gl (sc := defScope st_twos) rfl rfl (by decide +kernel)) Z.n_max b_max (l_cons (a_of_d (d_ix (a_name (pe_var (i := 0) rfl (.inr (.inl (blk_look (sc := defScope st_twos) rfl (by decide +kernel)))))) (a_name (pe_var (i := 2) rfl (.inr (.inl (blk_look (sc := defScope st_twos) rfl (by decide +kernel)))))) (fun _ _ => rfl))) (l_cons (a_name (pe_var (i := 3) rfl (.inl rfl))) (l_nil)))))) (l_nil))))))))))) (ss_one (s_ret (o_call (co_sorted hu) s_twos_sorted Z.n_sorted b_sorted (l_cons (a_name (pe_var (i := 1) rfl (.inl s_twos_found))) (l_nil))))))
theorem ok_row {f : Addr} {fd : FuncData} (Z : Zs K mg f_is_count d_is_count f_is_tuple_of d_is_tuple_of f_rises d_rises f_is_word d_is_word f_is_hand d_is_hand f_is_pair d_is_pair f_is_stamp d_is_stamp f_is_row d_is_row f_is_rights d_is_rights f_is_told_rise d_is_told_rise f_is_heard d_is_heard f_tap d_tap f_take d_take f_odd d_odd f_bend d_bend f_towns d_towns f_seats d_seats f_twos d_twos f_row d_row f_lot d_lot f_news d_news f_number d_number f_word d_word f_hand d_hand f_pair d_pair f_own_is_row d_own_is_row f_rise d_rise f_is_lot d_is_lot f_is_triple d_is_triple f_is_news d_is_news f_things d_things f_great d_great) (F0 : Fun K "_law_row" "_law_row" st_row f fd) (F_take : FnG P w K mg base (L2.CX P w) 1 f_take d_take ["tap", "many"] (spI K XR 2 Lw.fn_take)) : FnG P w K mg base (L2.CX P w) 2 f fd ["tap", "pair", "towns"] (spI K XR 3 Lw.fn_row) := by
  refine okI (N := ["tap", "pair", "towns", "stamp", "place", "giver"]) (ps := ["tap", "pair", "towns"]) (k := 1) (body := Lw.m_row) [true, false, false] F0 sc_row rfl (by decide) fun cdv A outer s H E hg hr => ?_
  have hu := hr.units
  have hu1 := hr.units1
  have tk : Takes (cxOf (L2.CX P w) P w K mg base ["tap", "pair", "towns", "stamp", "place", "giver"] "_law_row" (defScope st_row) f cdv A outer s H E) (fun cls d _ H' => E cls d H') := takes_of rfl rfl rfl rfl
  exact ss_cons (s_set (i := 3) sc_row.nd rfl (.inl s_row_stamp) (o_of_d (d_tup (l_cons (a_of_d (d_of_o (o_fnO F_take hg (hr.mono (by decide)) s_row__law_take Z.g_take Z.k_take Z.b_take tk (l_cons (a_name (pe_var (i := 0) rfl (.inl s_row_tap))) (l_cons (a_of_d (d_int)) (l_nil))) rfl (ll_cons (ll_cons (ll_nil)))))) (l_cons (a_of_d (d_of_o (o_fnO F_take hg (hr.mono (by decide)) s_row__law_take Z.g_take Z.k_take Z.b_take tk (l_cons (a_name (pe_var (i := 0) rfl (.inl s_row_tap))) (l_cons (a_of_d (d_int)) (l_nil))) rfl (ll_cons (ll_cons (ll_nil)))))) (l_nil)))))) (ss_cons (s_par rfl sc_row.nd rfl rfl s_row_place s_row_giver (o_of_d (d_ix (a_name (pe_var (i := 2) rfl (.inl s_row_towns))) (a_of_d (d_of_o (o_fnO F_take hg (hr.mono (by decide)) s_row__law_take Z.g_take Z.k_take Z.b_take tk (l_cons (a_name (pe_var (i := 0) rfl (.inl s_row_tap))) (l_cons (a_of_d (d_of_o (o_call co_len s_row_len Z.n_len b_len (l_cons (a_name (pe_var (i := 2) rfl (.inl s_row_towns))) (l_nil))))) (l_nil))) rfl (ll_cons (ll_cons (ll_nil)))))) (fun _ _ => rfl))) (o_of_d (d_ix (a_name (pe_var (i := 2) rfl (.inl s_row_towns))) (a_of_d (d_of_o (o_fnO F_take hg (hr.mono (by decide)) s_row__law_take Z.g_take Z.k_take Z.b_take tk (l_cons (a_name (pe_var (i := 0) rfl (.inl s_row_tap))) (l_cons (a_of_d (d_of_o (o_call co_len s_row_len Z.n_len b_len (l_cons (a_name (pe_var (i := 2) rfl (.inl s_row_towns))) (l_nil))))) (l_nil))) rfl (ll_cons (ll_cons (ll_nil)))))) (fun _ _ => rfl)))) (ss_one (s_ret (o_of_d (d_tup (l_cons (a_of_d (d_name (pe_var (i := 1) rfl (.inl s_row_pair)))) (l_cons (a_of_d (d_name (pe_var (i := 3) rfl (.inl s_row_stamp)))) (l_cons (a_of_d (d_name (pe_var (i := 4) rfl (.inl s_row_place)))) (l_cons (a_of_d (d_name (pe_var (i := 5) rfl (.inl s_row_giver)))) (l_cons (a_of_d (d_of_o (o_fnO F_take hg (hr.mono (by decide)) s_row__law_take Z.g_take Z.k_take Z.b_take tk (l_cons (a_name (pe_var (i := 0) rfl (.inl s_row_tap))) (l_cons (a_of_d (d_int)) (l_nil))) rfl (ll_cons (ll_cons (ll_nil)))))) (l_cons (a_of_d (d_of_o (o_fnO F_take hg (hr.mono (by decide)) s_row__law_take Z.g_take Z.k_take Z.b_take tk (l_cons (a_name (pe_var (i := 0) rfl (.inl s_row_tap))) (l_cons (a_of_d (d_int)) (l_nil))) rfl (ll_cons (ll_cons (ll_nil)))))) (l_cons (a_of_d (d_cmp (od_eq hu) (a_of_d (d_of_o (o_fnO F_take hg (hr.mono (by decide)) s_row__law_take Z.g_take Z.k_take Z.b_take tk (l_cons (a_name (pe_var (i := 0) rfl (.inl s_row_tap))) (l_cons (a_of_d (d_int)) (l_nil))) rfl (ll_cons (ll_cons (ll_nil)))))) (a_of_d (d_int)))) (l_nil)))))))))))))
theorem ok_lot {f : Addr} {fd : FuncData} (Z : Zs K mg f_is_count d_is_count f_is_tuple_of d_is_tuple_of f_rises d_rises f_is_word d_is_word f_is_hand d_is_hand f_is_pair d_is_pair f_is_stamp d_is_stamp f_is_row d_is_row f_is_rights d_is_rights f_is_told_rise d_is_told_rise f_is_heard d_is_heard f_tap d_tap f_take d_take f_odd d_odd f_bend d_bend f_towns d_towns f_seats d_seats f_twos d_twos f_row d_row f_lot d_lot f_news d_news f_number d_number f_word d_word f_hand d_hand f_pair d_pair f_own_is_row d_own_is_row f_rise d_rise f_is_lot d_is_lot f_is_triple d_is_triple f_is_news d_is_news f_things d_things f_great d_great) (F0 : Fun K "_law_lot" "_law_lot" st_lot f fd) (F_take : FnG P w K mg base (L2.CX P w) 1 f_take d_take ["tap", "many"] (spI K XR 2 Lw.fn_take)) (F_row : FnG P w K mg base (L2.CX P w) 2 f_row d_row ["tap", "pair", "towns"] (spI K XR 3 Lw.fn_row)) : FnG P w K mg base (L2.CX P w) 3 f fd ["tap", "pairs", "towns"] (spI K XR 3 Lw.fn_lot) := by
  refine okI (N := ["tap", "pairs", "towns", "rows", "pair"]) (ps := ["tap", "pairs", "towns"]) (k := 2) (body := Lw.m_lot) [true, false, false] F0 sc_lot rfl (by decide) fun cdv A outer s H E hg hr => ?_
  have hu := hr.units
  have hu1 := hr.units1
  have tk : Takes (cxOf (L2.CX P w) P w K mg base ["tap", "pairs", "towns", "rows", "pair"] "_law_lot" (defScope st_lot) f cdv A outer s H E) (fun cls d _ H' => E cls d H') := takes_of rfl rfl rfl rfl
  exact ss_cons (s_set (i := 3) sc_lot.nd rfl (.inl s_lot_rows) (o_callTy co_tuple s_lot_tuple Z.n_tuple b_tuple (l_cons (a_of_d (d_of_o (o_comp (n := 5) (own := [("pair", 4)]) rfl sc_lot.nd (i_seq (d_name (pe_var (i := 1) rfl (.inl s_lot_pairs)))) (blkOk_by (N := ["tap", "pairs", "towns", "rows", "pair"]) (sc := defScope st_lot) (own := [("pair", 4)]) (by decide +kernel)) (fun _ _ _ _ _ => pg_name (i := 4) sc_lot.nd rfl (.inl rfl)) (g_name) (fun _ _ _ _ _ => c_one (t_cmp (od_gt hu) (a_of_d (d_of_o (o_fnO F_take hg (hr.mono (by decide)) (blk_gl (sc := defScope st_lot) rfl rfl (by decide +kernel)) Z.g_take Z.k_take Z.b_take takes0 (l_cons (a_name (pe_var (i := 0) rfl (.inr (.inl (blk_look (sc := defScope st_lot) rfl (by decide +kernel)))))) (l_cons (a_of_d (d_int)) (l_nil))) rfl (ll_cons (ll_cons (ll_nil)))))) (a_of_d (d_int)))) (fun _ _ _ _ _ => d_of_o (o_fnO F_row hg (hr.mono (by decide)) (blk_gl (sc := defScope st_lot) rfl rfl (by decide +kernel)) Z.g_row Z.k_row Z.b_row takes0 (l_cons (a_name (pe_var (i := 0) rfl (.inr (.inl (blk_look (sc := defScope st_lot) rfl (by decide +kernel)))))) (l_cons (a_of_d (d_name (pe_var (i := 4) rfl (.inl rfl)))) (l_cons (a_of_d (d_name (pe_var (i := 2) rfl (.inr (.inl (blk_look (sc := defScope st_lot) rfl (by decide +kernel))))))) (l_nil)))) rfl (ll_cons (ll_cons (ll_cons (ll_nil))))))))) (l_nil)))) (ss_one (s_ret (o_of_d (d_tup (l_cons (a_of_d (d_of_o (o_fnO F_take hg (hr.mono (by decide)) s_lot__law_take Z.g_take Z.k_take Z.b_take tk (l_cons (a_name (pe_var (i := 0) rfl (.inr (.inl s_lot_tap)))) (l_cons (a_of_d (d_int)) (l_nil))) rfl (ll_cons (ll_cons (ll_nil)))))) (l_cons (a_of_d (d_of_o (o_fnO F_take hg (hr.mono (by decide)) s_lot__law_take Z.g_take Z.k_take Z.b_take tk (l_cons (a_name (pe_var (i := 0) rfl (.inr (.inl s_lot_tap)))) (l_cons (a_of_d (d_int)) (l_nil))) rfl (ll_cons (ll_cons (ll_nil)))))) (l_cons (a_of_d (d_name (pe_var (i := 3) rfl (.inl s_lot_rows)))) (l_nil))))))))
theorem ok_news {f : Addr} {fd : FuncData} (Z : Zs K mg f_is_count d_is_count f_is_tuple_of d_is_tuple_of f_rises d_rises f_is_word d_is_word f_is_hand d_is_hand f_is_pair d_is_pair f_is_stamp d_is_stamp f_is_row d_is_row f_is_rights d_is_rights f_is_told_rise d_is_told_rise f_is_heard d_is_heard f_tap d_tap f_take d_take f_odd d_odd f_bend d_bend f_towns d_towns f_seats d_seats f_twos d_twos f_row d_row f_lot d_lot f_news d_news f_number d_number f_word d_word f_hand d_hand f_pair d_pair f_own_is_row d_own_is_row f_rise d_rise f_is_lot d_is_lot f_is_triple d_is_triple f_is_news d_is_news f_things d_things f_great d_great) (F0 : Fun K "_law_news" "_law_news" st_news f fd) (F_take : FnG P w K mg base (L2.CX P w) 1 f_take d_take ["tap", "many"] (spI K XR 2 Lw.fn_take)) : FnG P w K mg base (L2.CX P w) 2 f fd ["tap", "towns"] (spI K XR 2 Lw.fn_news) := by
  refine okI (N := ["tap", "towns", "found", "place", "many"]) (ps := ["tap", "towns"]) (k := 1) (body := Lw.m_news) [true, false] F0 sc_news rfl (by decide) fun cdv A outer s H E hg hr => ?_
  have hu := hr.units
  have hu1 := hr.units1
  have tk : Takes (cxOf (L2.CX P w) P w K mg base ["tap", "towns", "found", "place", "many"] "_law_news" (defScope st_news) f cdv A outer s H E) (fun cls d _ H' => E cls d H') := takes_of rfl rfl rfl rfl
  exact ss_cons (s_set (i := 2) sc_news.nd rfl (.inl s_news_found) (o_lst (l_nil))) (ss_cons (s_for (n := 5) (passes_of rfl) rfl (i_seq (d_name (pe_var (i := 1) rfl (.inl s_news_towns)))) (pg_name (i := 3) sc_news.nd rfl (.inl s_news_place)) (g_name) (ss_cons (s_set (i := 4) sc_news.nd rfl (.inl s_news_many) (o_fnO F_take hg (hr.mono (by decide)) s_news__law_take Z.g_take Z.k_take Z.b_take tk (l_cons (a_name (pe_var (i := 0) rfl (.inl s_news_tap))) (l_cons (a_of_d (d_int)) (l_nil))) rfl (ll_cons (ll_cons (ll_nil))))) (ss_one (s_expr (x_append (pe_var (i := 2) rfl (.inl s_news_found)) (d_tup (l_cons (a_of_d (d_name (pe_var (i := 3) rfl (.inl s_news_place)))) (l_cons (a_of_d (d_name (pe_var (i := 4) rfl (.inl s_news_many)))) (l_cons (a_of_d (d_of_o (o_op ao_mul (a_of_d (d_of_o (o_fnO F_take hg (hr.mono (by decide)) s_news__law_take Z.g_take Z.k_take Z.b_take tk (l_cons (a_name (pe_var (i := 0) rfl (.inl s_news_tap))) (l_cons (a_of_d (d_int)) (l_nil))) rfl (ll_cons (ll_cons (ll_nil)))))) (a_of_d (d_of_o (o_callTy co_int s_news_int Z.n_int b_int (l_cons (a_of_d (d_cmp (od_gt hu) (a_name (pe_var (i := 4) rfl (.inl s_news_many))) (a_of_d (d_int)))) (l_nil)))))))) (l_nil)))))))))) (ss_one (s_ret (o_callTy co_tuple s_news_tuple Z.n_tuple b_tuple (l_cons (a_name (pe_var (i := 2) rfl (.inl s_news_found))) (l_nil))))))
theorem ok_number {f : Addr} {fd : FuncData} (Z : Zs K mg f_is_count d_is_count f_is_tuple_of d_is_tuple_of f_rises d_rises f_is_word d_is_word f_is_hand d_is_hand f_is_pair d_is_pair f_is_stamp d_is_stamp f_is_row d_is_row f_is_rights d_is_rights f_is_told_rise d_is_told_rise f_is_heard d_is_heard f_tap d_tap f_take d_take f_odd d_odd f_bend d_bend f_towns d_towns f_seats d_seats f_twos d_twos f_row d_row f_lot d_lot f_news d_news f_number d_number f_word d_word f_hand d_hand f_pair d_pair f_own_is_row d_own_is_row f_rise d_rise f_is_lot d_is_lot f_is_triple d_is_triple f_is_news d_is_news f_things d_things f_great d_great) (F0 : Fun K "_law_number" "_law_number" st_number f fd)  : FnG P w K mg base (L2.CX P w) 1 f fd ["thing"] (spI K XR 1 Lw.fn_number) := by
  refine okI (N := ["thing"]) (ps := ["thing"]) (k := 0) (body := Lw.m_number) [false] F0 sc_number rfl (by decide) fun cdv A outer s H E hg hr => ?_
  have hu := hr.units
  have hu1 := hr.units1
  have tk : Takes (cxOf (L2.CX P w) P w K mg base ["thing"] "_law_number" (defScope st_number) f cdv A outer s H E) (fun cls d _ H' => E cls d H') := takes_of rfl rfl rfl rfl
  exact ss_one (s_ret (o_of_d (d_and (d_isi s_number_isinstance Z.n_isinstance s_number_int Z.n_int (by decide +kernel) (a_name (pe_var (i := 0) rfl (.inl s_number_thing)))) (d_and (d_not (d_isi s_number_isinstance Z.n_isinstance s_number_bool Z.n_bool (by decide +kernel) (a_name (pe_var (i := 0) rfl (.inl s_number_thing))))) (d_one (d_cmp (od_ge hu) (a_name (pe_var (i := 0) rfl (.inl s_number_thing))) (a_of_d (d_int))))))))
theorem ok_word {f : Addr} {fd : FuncData} (Z : Zs K mg f_is_count d_is_count f_is_tuple_of d_is_tuple_of f_rises d_rises f_is_word d_is_word f_is_hand d_is_hand f_is_pair d_is_pair f_is_stamp d_is_stamp f_is_row d_is_row f_is_rights d_is_rights f_is_told_rise d_is_told_rise f_is_heard d_is_heard f_tap d_tap f_take d_take f_odd d_odd f_bend d_bend f_towns d_towns f_seats d_seats f_twos d_twos f_row d_row f_lot d_lot f_news d_news f_number d_number f_word d_word f_hand d_hand f_pair d_pair f_own_is_row d_own_is_row f_rise d_rise f_is_lot d_is_lot f_is_triple d_is_triple f_is_news d_is_news f_things d_things f_great d_great) (F0 : Fun K "_law_word" "_law_word" st_word f fd)  : FnG P w K mg base (L2.CX P w) 1 f fd ["thing"] (spI K XR 1 Lw.fn_word) := by
  refine okI (N := ["thing", "s"]) (ps := ["thing"]) (k := 0) (body := Lw.m_word) [false] F0 sc_word rfl (by decide) fun cdv A outer s H E hg hr => ?_
  have hu := hr.units
  have hu1 := hr.units1
  have tk : Takes (cxOf (L2.CX P w) P w K mg base ["thing", "s"] "_law_word" (defScope st_word) f cdv A outer s H E) (fun cls d _ H' => E cls d H') := takes_of rfl rfl rfl rfl
  exact ss_one (s_ret (o_of_d (d_and (d_isi s_word_isinstance Z.n_isinstance s_word_str Z.n_str (by decide +kernel) (a_name (pe_var (i := 0) rfl (.inl s_word_thing)))) (d_and (d_chain (od_lt hu) (od_lt hu) (d_int) (d_of_o (o_call co_len s_word_len Z.n_len b_len (l_cons (a_name (pe_var (i := 0) rfl (.inl s_word_thing))) (l_nil)))) (d_int)) (d_one (d_cmp (od_eq hu) (a_of_d (d_of_o (o_comp (n := 2) (own := [("s", 1)]) rfl sc_word.nd (i_txt (d_name (pe_var (i := 0) rfl (.inl s_word_thing)))) (blkOk_by (N := ["thing", "s"]) (sc := defScope st_word) (own := [("s", 1)]) (by decide +kernel)) (fun _ _ _ _ _ => pg_name (i := 1) sc_word.nd rfl (.inl rfl)) (g_name) (fun _ _ _ _ _ => c_one (t_not (t_chain (od_le hu) (od_le hu) (d_str) (d_name (pe_var (i := 1) rfl (.inl rfl))) (d_str)))) (fun _ _ _ _ _ => d_name (pe_var (i := 1) rfl (.inl rfl)))))) (a_of_d (d_of_o (o_lst (l_nil))))))))))
theorem ok_hand {f : Addr} {fd : FuncData} (Z : Zs K mg f_is_count d_is_count f_is_tuple_of d_is_tuple_of f_rises d_rises f_is_word d_is_word f_is_hand d_is_hand f_is_pair d_is_pair f_is_stamp d_is_stamp f_is_row d_is_row f_is_rights d_is_rights f_is_told_rise d_is_told_rise f_is_heard d_is_heard f_tap d_tap f_take d_take f_odd d_odd f_bend d_bend f_towns d_towns f_seats d_seats f_twos d_twos f_row d_row f_lot d_lot f_news d_news f_number d_number f_word d_word f_hand d_hand f_pair d_pair f_own_is_row d_own_is_row f_rise d_rise f_is_lot d_is_lot f_is_triple d_is_triple f_is_news d_is_news f_things d_things f_great d_great) (F0 : Fun K "_law_hand" "_law_hand" st_hand f fd) (F_word : FnG P w K mg base (L2.CX P w) 1 f_word d_word ["thing"] (spI K XR 1 Lw.fn_word)) : FnG P w K mg base (L2.CX P w) 2 f fd ["thing"] (spI K XR 1 Lw.fn_hand) := by
  refine okI (N := ["thing"]) (ps := ["thing"]) (k := 1) (body := Lw.m_hand) [false] F0 sc_hand rfl (by decide) fun cdv A outer s H E hg hr => ?_
  have hu := hr.units
  have hu1 := hr.units1
  have tk : Takes (cxOf (L2.CX P w) P w K mg base ["thing"] "_law_hand" (defScope st_hand) f cdv A outer s H E) (fun cls d _ H' => E cls d H') := takes_of rfl rfl rfl rfl
  exact ss_one (s_ret (o_of_d (d_and (d_isi s_hand_isinstance Z.n_isinstance s_hand_tuple Z.n_tuple (by decide +kernel) (a_name (pe_var (i := 0) rfl (.inl s_hand_thing)))) (d_and (d_cmp (od_eq hu) (a_of_d (d_of_o (o_call co_len s_hand_len Z.n_len b_len (l_cons (a_name (pe_var (i := 0) rfl (.inl s_hand_thing))) (l_nil))))) (a_of_d (d_int))) (d_and (d_of_o (o_fn F_word hg (hr.mono (by decide)) s_hand__law_word Z.g_word Z.k_word Z.b_word tk (l_cons (a_of_d (d_ix (a_name (pe_var (i := 0) rfl (.inl s_hand_thing))) (a_of_d (d_int)) (fun _ _ => rfl))) (l_nil)) rfl (ll_cons (ll_nil)))) (d_one (d_of_o (o_fn F_word hg (hr.mono (by decide)) s_hand__law_word Z.g_word Z.k_word Z.b_word tk (l_cons (a_of_d (d_ix (a_name (pe_var (i := 0) rfl (.inl s_hand_thing))) (a_of_d (d_int)) (fun _ _ => rfl))) (l_nil)) rfl (ll_cons (ll_nil))))))))))
theorem ok_pair {f : Addr} {fd : FuncData} (Z : Zs K mg f_is_count d_is_count f_is_tuple_of d_is_tuple_of f_rises d_rises f_is_word d_is_word f_is_hand d_is_hand f_is_pair d_is_pair f_is_stamp d_is_stamp f_is_row d_is_row f_is_rights d_is_rights f_is_told_rise d_is_told_rise f_is_heard d_is_heard f_tap d_tap f_take d_take f_odd d_odd f_bend d_bend f_towns d_towns f_seats d_seats f_twos d_twos f_row d_row f_lot d_lot f_news d_news f_number d_number f_word d_word f_hand d_hand f_pair d_pair f_own_is_row d_own_is_row f_rise d_rise f_is_lot d_is_lot f_is_triple d_is_triple f_is_news d_is_news f_things d_things f_great d_great) (F0 : Fun K "_law_pair" "_law_pair" st_pair f fd) (F_hand : FnG P w K mg base (L2.CX P w) 2 f_hand d_hand ["thing"] (spI K XR 1 Lw.fn_hand)) : FnG P w K mg base (L2.CX P w) 3 f fd ["thing"] (spI K XR 1 Lw.fn_pair) := by
  refine okI (N := ["thing"]) (ps := ["thing"]) (k := 2) (body := Lw.m_pair) [false] F0 sc_pair rfl (by decide) fun cdv A outer s H E hg hr => ?_
  have hu := hr.units
  have hu1 := hr.units1
  have tk : Takes (cxOf (L2.CX P w) P w K mg base ["thing"] "_law_pair" (defScope st_pair) f cdv A outer s H E) (fun cls d _ H' => E cls d H') := takes_of rfl rfl rfl rfl
  exact ss_cons (s_if (t_w (w_or (t_not (t_tru (d_isi s_pair_isinstance Z.n_isinstance s_pair_tuple Z.n_tuple (by decide +kernel) (a_name (pe_var (i := 0) rfl (.inl s_pair_thing)))))) (w_or (t_cmp (od_ne hu) (a_of_d (d_of_o (o_call co_len s_pair_len Z.n_len b_len (l_cons (a_name (pe_var (i := 0) rfl (.inl s_pair_thing))) (l_nil))))) (a_of_d (d_int))) (w_or (t_not (t_tru (d_of_o (o_fn F_hand hg (hr.mono (by decide)) s_pair__law_hand Z.g_hand Z.k_hand Z.b_hand tk (l_cons (a_of_d (d_ix (a_name (pe_var (i := 0) rfl (.inl s_pair_thing))) (a_of_d (d_int)) (fun _ _ => rfl))) (l_nil)) rfl (ll_cons (ll_nil)))))) (w_one2 (t_not (t_tru (d_of_o (o_fn F_hand hg (hr.mono (by decide)) s_pair__law_hand Z.g_hand Z.k_hand Z.b_hand tk (l_cons (a_of_d (d_ix (a_name (pe_var (i := 0) rfl (.inl s_pair_thing))) (a_of_d (d_int)) (fun _ _ => rfl))) (l_nil)) rfl (ll_cons (ll_nil))))))))))) (ss_one (s_ret (o_of_d (d_bool)))) (ss_nil)) (ss_one (s_ret (o_of_d (d_cmp (od_lt hu) (a_of_d (d_ix (a_name (pe_var (i := 0) rfl (.inl s_pair_thing))) (a_of_d (d_int)) (fun _ _ => rfl))) (a_of_d (d_ix (a_name (pe_var (i := 0) rfl (.inl s_pair_thing))) (a_of_d (d_int)) (fun _ _ => rfl)))))))
theorem ok_own_is_row {f : Addr} {fd : FuncData} (Z : Zs K mg f_is_count d_is_count f_is_tuple_of d_is_tuple_of f_rises d_rises f_is_word d_is_word f_is_hand d_is_hand f_is_pair d_is_pair f_is_stamp d_is_stamp f_is_row d_is_row f_is_rights d_is_rights f_is_told_rise d_is_told_rise f_is_heard d_is_heard f_tap d_tap f_take d_take f_odd d_odd f_bend d_bend f_towns d_towns f_seats d_seats f_twos d_twos f_row d_row f_lot d_lot f_news d_news f_number d_number f_word d_word f_hand d_hand f_pair d_pair f_own_is_row d_own_is_row f_rise d_rise f_is_lot d_is_lot f_is_triple d_is_triple f_is_news d_is_news f_things d_things f_great d_great) (F0 : Fun K "_law_is_row" "_law_is_row" st_own_is_row f fd) (F_pair : FnG P w K mg base (L2.CX P w) 3 f_pair d_pair ["thing"] (spI K XR 1 Lw.fn_pair)) (F_number : FnG P w K mg base (L2.CX P w) 1 f_number d_number ["thing"] (spI K XR 1 Lw.fn_number)) (F_word : FnG P w K mg base (L2.CX P w) 1 f_word d_word ["thing"] (spI K XR 1 Lw.fn_word)) : FnG P w K mg base (L2.CX P w) 4 f fd ["thing"] (spI K XR 1 Lw.fn_own_is_row) := by
  refine okI (N := ["thing", "pair", "stamp", "place", "giver", "many", "free", "here"]) (ps := ["thing"]) (k := 3) (body := Lw.m_own_is_row) [false] F0 sc_own_is_row rfl (by decide) fun cdv A outer s H E hg hr => ?_
  have hu := hr.units
  have hu1 := hr.units1
  have tk : Takes (cxOf (L2.CX P w) P w K mg base ["thing", "pair", "stamp", "place", "giver", "many", "free", "here"] "_law_is_row" (defScope st_own_is_row) f cdv A outer s H E) (fun cls d _ H' => E cls d H') := takes_of rfl rfl rfl rfl
  exact ss_cons (s_if (t_w (w_or (t_not (t_tru (d_isi s_own_is_row_isinstance Z.n_isinstance s_own_is_row_tuple Z.n_tuple (by decide +kernel) (a_name (pe_var (i := 0) rfl (.inl s_own_is_row_thing)))))) (w_or (t_cmp (od_ne hu) (a_of_d (d_of_o (o_call co_len s_own_is_row_len Z.n_len b_len (l_cons (a_name (pe_var (i := 0) rfl (.inl s_own_is_row_thing))) (l_nil))))) (a_of_d (d_int))) (w_one2 (t_not (t_tru (d_of_o (o_fn F_pair hg (hr.mono (by decide)) s_own_is_row__law_pair Z.g_pair Z.k_pair Z.b_pair tk (l_cons (a_of_d (d_ix (a_name (pe_var (i := 0) rfl (.inl s_own_is_row_thing))) (a_of_d (d_int)) (fun _ _ => rfl))) (l_nil)) rfl (ll_cons (ll_nil)))))))))) (ss_one (s_ret (o_of_d (d_bool)))) (ss_nil)) (ss_cons (s_un (n := 8) (d_name (pe_var (i := 0) rfl (.inl s_own_is_row_thing))) (pg_tup (n := 7) rfl (pgs_cons (pg_name (i := 1) sc_own_is_row.nd rfl (.inl s_own_is_row_pair)) (pgs_cons (pg_name (i := 2) sc_own_is_row.nd rfl (.inl s_own_is_row_stamp)) (pgs_cons (pg_name (i := 3) sc_own_is_row.nd rfl (.inl s_own_is_row_place)) (pgs_cons (pg_name (i := 4) sc_own_is_row.nd rfl (.inl s_own_is_row_giver)) (pgs_cons (pg_name (i := 5) sc_own_is_row.nd rfl (.inl s_own_is_row_many)) (pgs_cons (pg_name (i := 6) sc_own_is_row.nd rfl (.inl s_own_is_row_free)) (pgs_cons (pg_name (i := 7) sc_own_is_row.nd rfl (.inl s_own_is_row_here)) (pgs_nil))))))))) (g_tup (.cons (g_name) (.cons (g_name) (.cons (g_name) (.cons (g_name) (.cons (g_name) (.cons (g_name) (.cons (g_name) (.nil)))))))))) (ss_cons (s_if (t_w (w_or (t_not (t_tru (d_isi s_own_is_row_isinstance Z.n_isinstance s_own_is_row_tuple Z.n_tuple (by decide +kernel) (a_name (pe_var (i := 2) rfl (.inl s_own_is_row_stamp)))))) (w_or (t_cmp (od_ne hu) (a_of_d (d_of_o (o_call co_len s_own_is_row_len Z.n_len b_len (l_cons (a_name (pe_var (i := 2) rfl (.inl s_own_is_row_stamp))) (l_nil))))) (a_of_d (d_int))) (w_or (t_not (t_tru (d_of_o (o_fn F_number hg (hr.mono (by decide)) s_own_is_row__law_number Z.g_number Z.k_number Z.b_number tk (l_cons (a_of_d (d_ix (a_name (pe_var (i := 2) rfl (.inl s_own_is_row_stamp))) (a_of_d (d_int)) (fun _ _ => rfl))) (l_nil)) rfl (ll_cons (ll_nil)))))) (w_one2 (t_not (t_tru (d_of_o (o_fn F_number hg (hr.mono (by decide)) s_own_is_row__law_number Z.g_number Z.k_number Z.b_number tk (l_cons (a_of_d (d_ix (a_name (pe_var (i := 2) rfl (.inl s_own_is_row_stamp))) (a_of_d (d_int)) (fun _ _ => rfl))) (l_nil)) rfl (ll_cons (ll_nil))))))))))) (ss_one (s_ret (o_of_d (d_bool)))) (ss_nil)) (ss_cons (s_if (t_w (w_or (t_not (t_tru (d_of_o (o_fn F_word hg (hr.mono (by decide)) s_own_is_row__law_word Z.g_word Z.k_word Z.b_word tk (l_cons (a_of_d (d_name (pe_var (i := 3) rfl (.inl s_own_is_row_place)))) (l_nil)) rfl (ll_cons (ll_nil)))))) (w_or (t_not (t_tru (d_of_o (o_fn F_word hg (hr.mono (by decide)) s_own_is_row__law_word Z.g_word Z.k_word Z.b_word tk (l_cons (a_of_d (d_name (pe_var (i := 4) rfl (.inl s_own_is_row_giver)))) (l_nil)) rfl (ll_cons (ll_nil)))))) (w_or (t_not (t_tru (d_of_o (o_fn F_number hg (hr.mono (by decide)) s_own_is_row__law_number Z.g_number Z.k_number Z.b_number tk (l_cons (a_of_d (d_name (pe_var (i := 5) rfl (.inl s_own_is_row_many)))) (l_nil)) rfl (ll_cons (ll_nil)))))) (w_one2 (t_not (t_tru (d_of_o (o_fn F_number hg (hr.mono (by decide)) s_own_is_row__law_number Z.g_number Z.k_number Z.b_number tk (l_cons (a_of_d (d_name (pe_var (i := 6) rfl (.inl s_own_is_row_free)))) (l_nil)) rfl (ll_cons (ll_nil))))))))))) (ss_one (s_ret (o_of_d (d_bool)))) (ss_nil)) (ss_one (s_ret (o_of_d (d_isi s_own_is_row_isinstance Z.n_isinstance s_own_is_row_bool Z.n_bool (by decide +kernel) (a_name (pe_var (i := 7) rfl (.inl s_own_is_row_here))))))))))
theorem ok_rise {f : Addr} {fd : FuncData} (Z : Zs K mg f_is_count d_is_count f_is_tuple_of d_is_tuple_of f_rises d_rises f_is_word d_is_word f_is_hand d_is_hand f_is_pair d_is_pair f_is_stamp d_is_stamp f_is_row d_is_row f_is_rights d_is_rights f_is_told_rise d_is_told_rise f_is_heard d_is_heard f_tap d_tap f_take d_take f_odd d_odd f_bend d_bend f_towns d_towns f_seats d_seats f_twos d_twos f_row d_row f_lot d_lot f_news d_news f_number d_number f_word d_word f_hand d_hand f_pair d_pair f_own_is_row d_own_is_row f_rise d_rise f_is_lot d_is_lot f_is_triple d_is_triple f_is_news d_is_news f_things d_things f_great d_great) (F0 : Fun K "_law_rise" "_law_rise" st_rise f fd)  : FnG P w K mg base (L2.CX P w) 1 f fd ["some"] (spI K XR 1 Lw.fn_rise) := by
  refine okI (N := ["some", "k"]) (ps := ["some"]) (k := 0) (body := Lw.m_rise) [false] F0 sc_rise rfl (by decide) fun cdv A outer s H E hg hr => ?_
  have hu := hr.units
  have hu1 := hr.units1
  have tk : Takes (cxOf (L2.CX P w) P w K mg base ["some", "k"] "_law_rise" (defScope st_rise) f cdv A outer s H E) (fun cls d _ H' => E cls d H') := takes_of rfl rfl rfl rfl
  exact ss_one (s_ret (o_of_d (d_cmp (od_eq hu) (a_of_d (d_of_o (o_comp (n := 2) (own := [("k", 1)]) rfl sc_rise.nd (i_range2 s_rise_range Z.n_range (l_cons (a_of_d (d_int)) (l_cons (a_of_d (d_of_o (o_call co_len s_rise_len Z.n_len b_len (l_cons (a_name (pe_var (i := 0) rfl (.inr (.inl s_rise_some)))) (l_nil))))) (l_nil)))) (blkOk_by (N := ["some", "k"]) (sc := defScope st_rise) (own := [("k", 1)]) (by decide +kernel)) (fun _ _ _ _ _ => pg_name (i := 1) sc_rise.nd rfl (.inl rfl)) (g_name) (fun _ _ _ _ _ => c_one (t_not (t_cmp (od_lt hu) (a_of_d (d_ix (a_name (pe_var (i := 0) rfl (.inr (.inl (blk_look (sc := defScope st_rise) rfl (by decide +kernel)))))) (a_of_d (d_op od_sub (a_name (pe_var (i := 1) rfl (.inl rfl))) (a_of_d (d_int)))) (fun _ _ => rfl))) (a_of_d (d_ix (a_name (pe_var (i := 0) rfl (.inr (.inl (blk_look (sc := defScope st_rise) rfl (by decide +kernel)))))) (a_name (pe_var (i := 1) rfl (.inl rfl))) (fun _ _ => rfl)))))) (fun _ _ _ _ _ => d_name (pe_var (i := 1) rfl (.inl rfl)))))) (a_of_d (d_of_o (o_lst (l_nil)))))))
theorem ok_is_lot {f : Addr} {fd : FuncData} (Z : Zs K mg f_is_count d_is_count f_is_tuple_of d_is_tuple_of f_rises d_rises f_is_word d_is_word f_is_hand d_is_hand f_is_pair d_is_pair f_is_stamp d_is_stamp f_is_row d_is_row f_is_rights d_is_rights f_is_told_rise d_is_told_rise f_is_heard d_is_heard f_tap d_tap f_take d_take f_odd d_odd f_bend d_bend f_towns d_towns f_seats d_seats f_twos d_twos f_row d_row f_lot d_lot f_news d_news f_number d_number f_word d_word f_hand d_hand f_pair d_pair f_own_is_row d_own_is_row f_rise d_rise f_is_lot d_is_lot f_is_triple d_is_triple f_is_news d_is_news f_things d_things f_great d_great) (F0 : Fun K "_law_is_lot" "_law_is_lot" st_is_lot f fd) (F_number : FnG P w K mg base (L2.CX P w) 1 f_number d_number ["thing"] (spI K XR 1 Lw.fn_number)) (F_own_is_row : FnG P w K mg base (L2.CX P w) 4 f_own_is_row d_own_is_row ["thing"] (spI K XR 1 Lw.fn_own_is_row)) (F_rise : FnG P w K mg base (L2.CX P w) 1 f_rise d_rise ["some"] (spI K XR 1 Lw.fn_rise)) : FnG P w K mg base (L2.CX P w) 5 f fd ["thing"] (spI K XR 1 Lw.fn_is_lot) := by
  refine okI (N := ["thing", "row"]) (ps := ["thing"]) (k := 4) (body := Lw.m_is_lot) [false] F0 sc_is_lot rfl (by decide) fun cdv A outer s H E hg hr => ?_
  have hu := hr.units
  have hu1 := hr.units1
  have tk : Takes (cxOf (L2.CX P w) P w K mg base ["thing", "row"] "_law_is_lot" (defScope st_is_lot) f cdv A outer s H E) (fun cls d _ H' => E cls d H') := takes_of rfl rfl rfl rfl
  exact ss_cons (s_if (t_w (w_or (t_not (t_tru (d_isi s_is_lot_isinstance Z.n_isinstance s_is_lot_tuple Z.n_tuple (by decide +kernel) (a_name (pe_var (i := 0) rfl (.inl s_is_lot_thing)))))) (w_or (t_cmp (od_ne hu) (a_of_d (d_of_o (o_call co_len s_is_lot_len Z.n_len b_len (l_cons (a_name (pe_var (i := 0) rfl (.inl s_is_lot_thing))) (l_nil))))) (a_of_d (d_int))) (w_or (t_not (t_tru (d_of_o (o_fn F_number hg (hr.mono (by decide)) s_is_lot__law_number Z.g_number Z.k_number Z.b_number tk (l_cons (a_of_d (d_ix (a_name (pe_var (i := 0) rfl (.inl s_is_lot_thing))) (a_of_d (d_int)) (fun _ _ => rfl))) (l_nil)) rfl (ll_cons (ll_nil)))))) (w_one2 (t_not (t_tru (d_of_o (o_fn F_number hg (hr.mono (by decide)) s_is_lot__law_number Z.g_number Z.k_number Z.b_number tk (l_cons (a_of_d (d_ix (a_name (pe_var (i := 0) rfl (.inl s_is_lot_thing))) (a_of_d (d_int)) (fun _ _ => rfl))) (l_nil)) rfl (ll_cons (ll_nil))))))))))) (ss_one (s_ret (o_of_d (d_bool)))) (ss_nil)) (ss_cons (s_if (t_w (w_or (t_not (t_tru (d_isi s_is_lot_isinstance Z.n_isinstance s_is_lot_tuple Z.n_tuple (by decide +kernel) (a_of_d (d_ix (a_name (pe_var (i := 0) rfl (.inl s_is_lot_thing))) (a_of_d (d_int)) (fun _ _ => rfl)))))) (w_one2 (t_cmp (od_ne hu) (a_of_d (d_of_o (o_comp (n := 2) (own := [("row", 1)]) rfl sc_is_lot.nd (i_seq (d_ix (a_name (pe_var (i := 0) rfl (.inl s_is_lot_thing))) (a_of_d (d_int)) (fun _ _ => rfl))) (blkOk_by (N := ["thing", "row"]) (sc := defScope st_is_lot) (own := [("row", 1)]) (by decide +kernel)) (fun _ _ _ _ _ => pg_name (i := 1) sc_is_lot.nd rfl (.inl rfl)) (g_name) (fun _ _ _ _ _ => c_one (t_not (t_tru (d_of_o (o_fn F_own_is_row hg (hr.mono (by decide)) (blk_gl (sc := defScope st_is_lot) rfl rfl (by decide +kernel)) Z.g_own_is_row Z.k_own_is_row Z.b_own_is_row takes0 (l_cons (a_of_d (d_name (pe_var (i := 1) rfl (.inl rfl)))) (l_nil)) rfl (ll_cons (ll_nil))))))) (fun _ _ _ _ _ => d_name (pe_var (i := 1) rfl (.inl rfl)))))) (a_of_d (d_of_o (o_lst (l_nil)))))))) (ss_one (s_ret (o_of_d (d_bool)))) (ss_nil)) (ss_one (s_ret (o_fn F_rise hg (hr.mono (by decide)) s_is_lot__law_rise Z.g_rise Z.k_rise Z.b_rise tk (l_cons (a_of_d (d_of_o (o_comp (n := 2) (own := [("row", 1)]) rfl sc_is_lot.nd (i_seq (d_ix (a_name (pe_var (i := 0) rfl (.inl s_is_lot_thing))) (a_of_d (d_int)) (fun _ _ => rfl))) (blkOk_by (N := ["thing", "row"]) (sc := defScope st_is_lot) (own := [("row", 1)]) (by decide +kernel)) (fun _ _ _ _ _ => pg_name (i := 1) sc_is_lot.nd rfl (.inl rfl)) (g_name) (fun _ _ _ _ _ => c_none) (fun _ _ _ _ _ => d_ix (a_name (pe_var (i := 1) rfl (.inl rfl))) (a_of_d (d_int)) (fun _ _ => rfl))))) (l_nil)) rfl (ll_cons (ll_nil))))))
theorem ok_is_triple {f : Addr} {fd : FuncData} (Z : Zs K mg f_is_count d_is_count f_is_tuple_of d_is_tuple_of f_rises d_rises f_is_word d_is_word f_is_hand d_is_hand f_is_pair d_is_pair f_is_stamp d_is_stamp f_is_row d_is_row f_is_rights d_is_rights f_is_told_rise d_is_told_rise f_is_heard d_is_heard f_tap d_tap f_take d_take f_odd d_odd f_bend d_bend f_towns d_towns f_seats d_seats f_twos d_twos f_row d_row f_lot d_lot f_news d_news f_number d_number f_word d_word f_hand d_hand f_pair d_pair f_own_is_row d_own_is_row f_rise d_rise f_is_lot d_is_lot f_is_triple d_is_triple f_is_news d_is_news f_things d_things f_great d_great) (F0 : Fun K "_law_is_triple" "_law_is_triple" st_is_triple f fd) (F_word : FnG P w K mg base (L2.CX P w) 1 f_word d_word ["thing"] (spI K XR 1 Lw.fn_word)) (F_number : FnG P w K mg base (L2.CX P w) 1 f_number d_number ["thing"] (spI K XR 1 Lw.fn_number)) : FnG P w K mg base (L2.CX P w) 2 f fd ["thing"] (spI K XR 1 Lw.fn_is_triple) := by
  refine okI (N := ["thing"]) (ps := ["thing"]) (k := 1) (body := Lw.m_is_triple) [false] F0 sc_is_triple rfl (by decide) fun cdv A outer s H E hg hr => ?_
  have hu := hr.units
  have hu1 := hr.units1
  have tk : Takes (cxOf (L2.CX P w) P w K mg base ["thing"] "_law_is_triple" (defScope st_is_triple) f cdv A outer s H E) (fun cls d _ H' => E cls d H') := takes_of rfl rfl rfl rfl
  exact ss_cons (s_if (t_w (w_or (t_not (t_tru (d_isi s_is_triple_isinstance Z.n_isinstance s_is_triple_tuple Z.n_tuple (by decide +kernel) (a_name (pe_var (i := 0) rfl (.inl s_is_triple_thing)))))) (w_or (t_cmp (od_ne hu) (a_of_d (d_of_o (o_call co_len s_is_triple_len Z.n_len b_len (l_cons (a_name (pe_var (i := 0) rfl (.inl s_is_triple_thing))) (l_nil))))) (a_of_d (d_int))) (w_one2 (t_not (t_tru (d_of_o (o_fn F_word hg (hr.mono (by decide)) s_is_triple__law_word Z.g_word Z.k_word Z.b_word tk (l_cons (a_of_d (d_ix (a_name (pe_var (i := 0) rfl (.inl s_is_triple_thing))) (a_of_d (d_int)) (fun _ _ => rfl))) (l_nil)) rfl (ll_cons (ll_nil)))))))))) (ss_one (s_ret (o_of_d (d_bool)))) (ss_nil)) (ss_one (s_ret (o_of_d (d_and (d_of_o (o_fn F_number hg (hr.mono (by decide)) s_is_triple__law_number Z.g_number Z.k_number Z.b_number tk (l_cons (a_of_d (d_ix (a_name (pe_var (i := 0) rfl (.inl s_is_triple_thing))) (a_of_d (d_int)) (fun _ _ => rfl))) (l_nil)) rfl (ll_cons (ll_nil)))) (d_one (d_of_o (o_fn F_number hg (hr.mono (by decide)) s_is_triple__law_number Z.g_number Z.k_number Z.b_number tk (l_cons (a_of_d (d_ix (a_name (pe_var (i := 0) rfl (.inl s_is_triple_thing))) (a_of_d (d_int)) (fun _ _ => rfl))) (l_nil)) rfl (ll_cons (ll_nil)))))))))
theorem ok_is_news {f : Addr} {fd : FuncData} (Z : Zs K mg f_is_count d_is_count f_is_tuple_of d_is_tuple_of f_rises d_rises f_is_word d_is_word f_is_hand d_is_hand f_is_pair d_is_pair f_is_stamp d_is_stamp f_is_row d_is_row f_is_rights d_is_rights f_is_told_rise d_is_told_rise f_is_heard d_is_heard f_tap d_tap f_take d_take f_odd d_odd f_bend d_bend f_towns d_towns f_seats d_seats f_twos d_twos f_row d_row f_lot d_lot f_news d_news f_number d_number f_word d_word f_hand d_hand f_pair d_pair f_own_is_row d_own_is_row f_rise d_rise f_is_lot d_is_lot f_is_triple d_is_triple f_is_news d_is_news f_things d_things f_great d_great) (F0 : Fun K "_law_is_news" "_law_is_news" st_is_news f fd) (F_is_triple : FnG P w K mg base (L2.CX P w) 2 f_is_triple d_is_triple ["thing"] (spI K XR 1 Lw.fn_is_triple)) (F_rise : FnG P w K mg base (L2.CX P w) 1 f_rise d_rise ["some"] (spI K XR 1 Lw.fn_rise)) : FnG P w K mg base (L2.CX P w) 3 f fd ["thing"] (spI K XR 1 Lw.fn_is_news) := by
  refine okI (N := ["thing", "one"]) (ps := ["thing"]) (k := 2) (body := Lw.m_is_news) [false] F0 sc_is_news rfl (by decide) fun cdv A outer s H E hg hr => ?_
  have hu := hr.units
  have hu1 := hr.units1
  have tk : Takes (cxOf (L2.CX P w) P w K mg base ["thing", "one"] "_law_is_news" (defScope st_is_news) f cdv A outer s H E) (fun cls d _ H' => E cls d H') := takes_of rfl rfl rfl rfl
  exact ss_cons (s_if (t_w (w_or (t_not (t_tru (d_isi s_is_news_isinstance Z.n_isinstance s_is_news_tuple Z.n_tuple (by decide +kernel) (a_name (pe_var (i := 0) rfl (.inl s_is_news_thing)))))) (w_or (t_cmp (od_eq hu) (a_name (pe_var (i := 0) rfl (.inl s_is_news_thing))) (a_of_d (d_tup (l_nil)))) (w_one2 (t_cmp (od_ne hu) (a_of_d (d_of_o (o_comp (n := 2) (own := [("one", 1)]) rfl sc_is_news.nd (i_seq (d_name (pe_var (i := 0) rfl (.inl s_is_news_thing)))) (blkOk_by (N := ["thing", "one"]) (sc := defScope st_is_news) (own := [("one", 1)]) (by decide +kernel)) (fun _ _ _ _ _ => pg_name (i := 1) sc_is_news.nd rfl (.inl rfl)) (g_name) (fun _ _ _ _ _ => c_one (t_not (t_tru (d_of_o (o_fn F_is_triple hg (hr.mono (by decide)) (blk_gl (sc := defScope st_is_news) rfl rfl (by decide +kernel)) Z.g_is_triple Z.k_is_triple Z.b_is_triple takes0 (l_cons (a_of_d (d_name (pe_var (i := 1) rfl (.inl rfl)))) (l_nil)) rfl (ll_cons (ll_nil))))))) (fun _ _ _ _ _ => d_name (pe_var (i := 1) rfl (.inl rfl)))))) (a_of_d (d_of_o (o_lst (l_nil))))))))) (ss_one (s_ret (o_of_d (d_bool)))) (ss_nil)) (ss_one (s_ret (o_fn F_rise hg (hr.mono (by decide)) s_is_news__law_rise Z.g_rise Z.k_rise Z.b_rise tk (l_cons (a_of_d (d_of_o (o_comp (n := 2) (own := [("one", 1)]) rfl sc_is_news.nd (i_seq (d_name (pe_var (i := 0) rfl (.inl s_is_news_thing)))) (blkOk_by (N := ["thing", "one"]) (sc := defScope st_is_news) (own := [("one", 1)]) (by decide +kernel)) (fun _ _ _ _ _ => pg_name (i := 1) sc_is_news.nd rfl (.inl rfl)) (g_name) (fun _ _ _ _ _ => c_none) (fun _ _ _ _ _ => d_ix (a_name (pe_var (i := 1) rfl (.inl rfl))) (a_of_d (d_int)) (fun _ _ => rfl))))) (l_nil)) rfl (ll_cons (ll_nil)))))
theorem ok_things {f : Addr} {fd : FuncData} (Z : Zs K mg f_is_count d_is_count f_is_tuple_of d_is_tuple_of f_rises d_rises f_is_word d_is_word f_is_hand d_is_hand f_is_pair d_is_pair f_is_stamp d_is_stamp f_is_row d_is_row f_is_rights d_is_rights f_is_told_rise d_is_told_rise f_is_heard d_is_heard f_tap d_tap f_take d_take f_odd d_odd f_bend d_bend f_towns d_towns f_seats d_seats f_twos d_twos f_row d_row f_lot d_lot f_news d_news f_number d_number f_word d_word f_hand d_hand f_pair d_pair f_own_is_row d_own_is_row f_rise d_rise f_is_lot d_is_lot f_is_triple d_is_triple f_is_news d_is_news f_things d_things f_great d_great) (F0 : Fun K "_law_things" "_law_things" st_things f fd) (F_news : FnG P w K mg base (L2.CX P w) 2 f_news d_news ["tap", "towns"] (spI K XR 2 Lw.fn_news)) (F_lot : FnG P w K mg base (L2.CX P w) 3 f_lot d_lot ["tap", "pairs", "towns"] (spI K XR 3 Lw.fn_lot)) (F_row : FnG P w K mg base (L2.CX P w) 2 f_row d_row ["tap", "pair", "towns"] (spI K XR 3 Lw.fn_row)) : FnG P w K mg base (L2.CX P w) 4 f fd ["tap", "towns", "pairs"] (spI K XR 3 Lw.fn_things) := by
  refine okI (N := ["tap", "towns", "pairs", "row", "lot", "news", "pair", "found", "at", "odd", "rows", "one"]) (ps := ["tap", "towns", "pairs"]) (k := 3) (body := Lw.m_things) [true, false, false] F0 sc_things rfl (by decide) fun cdv A outer s H E hg hr => ?_
  have hu := hr.units
  have hu1 := hr.units1
  have tk : Takes (cxOf (L2.CX P w) P w K mg base ["tap", "towns", "pairs", "row", "lot", "news", "pair", "found", "at", "odd", "rows", "one"] "_law_things" (defScope st_things) f cdv A outer s H E) (fun cls d _ H' => E cls d H') := takes_of rfl rfl rfl rfl
  exact ss_cons (s_un (n := 12) (d_tup (l_cons (a_of_d (d_of_o (o_fnO F_row hg (hr.mono (by decide)) s_things__law_row Z.g_row Z.k_row Z.b_row tk (l_cons (a_name (pe_var (i := 0) rfl (.inl s_things_tap))) (l_cons (a_of_d (d_ix (a_name (pe_var (i := 2) rfl (.inl s_things_pairs))) (a_of_d (d_int)) (fun _ _ => rfl))) (l_cons (a_of_d (d_name (pe_var (i := 1) rfl (.inl s_things_towns)))) (l_nil)))) rfl (ll_cons (ll_cons (ll_cons (ll_nil))))))) (l_cons (a_of_d (d_of_o (o_fnO F_lot hg (hr.mono (by decide)) s_things__law_lot Z.g_lot Z.k_lot Z.b_lot tk (l_cons (a_name (pe_var (i := 0) rfl (.inl s_things_tap))) (l_cons (a_of_d (d_name (pe_var (i := 2) rfl (.inl s_things_pairs)))) (l_cons (a_of_d (d_name (pe_var (i := 1) rfl (.inl s_things_towns)))) (l_nil)))) rfl (ll_cons (ll_cons (ll_cons (ll_nil))))))) (l_cons (a_of_d (d_of_o (o_fnO F_news hg (hr.mono (by decide)) s_things__law_news Z.g_news Z.k_news Z.b_news tk (l_cons (a_name (pe_var (i := 0) rfl (.inl s_things_tap))) (l_cons (a_of_d (d_name (pe_var (i := 1) rfl (.inl s_things_towns)))) (l_nil))) rfl (ll_cons (ll_cons (ll_nil)))))) (l_cons (a_of_d (d_ix (a_name (pe_var (i := 2) rfl (.inl s_things_pairs))) (a_of_d (d_int)) (fun _ _ => rfl))) (l_nil)))))) (pg_tup (n := 4) rfl (pgs_cons (pg_name (i := 3) sc_things.nd rfl (.inl s_things_row)) (pgs_cons (pg_name (i := 4) sc_things.nd rfl (.inl s_things_lot)) (pgs_cons (pg_name (i := 5) sc_things.nd rfl (.inl s_things_news)) (pgs_cons (pg_name (i := 6) sc_things.nd rfl (.inl s_things_pair)) (pgs_nil)))))) (g_tup (.cons (g_name) (.cons (g_name) (.cons (g_name) (.cons (g_name) (.nil))))))) (ss_cons (s_set (i := 7) sc_things.nd rfl (.inl s_things_found) (o_lst (l_cons (a_of_d (d_name (pe_var (i := 3) rfl (.inl s_things_row)))) (l_cons (a_of_d (d_name (pe_var (i := 4) rfl (.inl s_things_lot)))) (l_cons (a_of_d (d_name (pe_var (i := 5) rfl (.inl s_things_news)))) (l_cons (a_of_d (d_name (pe_var (i := 6) rfl (.inl s_things_pair)))) (l_cons (a_of_d (d_ix (a_name (pe_var (i := 6) rfl (.inl s_things_pair))) (a_of_d (d_int)) (fun _ _ => rfl))) (l_cons (a_of_d (d_of_o (o_rev2 (a_name (pe_var (i := 6) rfl (.inl s_things_pair)))))) (l_cons (a_of_d (d_tup (l_cons (a_of_d (d_ix (a_name (pe_var (i := 6) rfl (.inl s_things_pair))) (a_of_d (d_int)) (fun _ _ => rfl))) (l_cons (a_of_d (d_ix (a_name (pe_var (i := 6) rfl (.inl s_things_pair))) (a_of_d (d_int)) (fun _ _ => rfl))) (l_nil))))) (l_cons (a_of_d (d_of_o (o_callTy co_list s_things_list Z.n_list b_list (l_cons (a_name (pe_var (i := 6) rfl (.inl s_things_pair))) (l_nil))))) (l_cons (a_of_d (d_of_o (o_callTy co_list s_things_list Z.n_list b_list (l_cons (a_of_d (d_ix (a_name (pe_var (i := 6) rfl (.inl s_things_pair))) (a_of_d (d_int)) (fun _ _ => rfl))) (l_nil))))) (l_cons (a_of_d (d_of_o (o_op ao_add (a_name (pe_var (i := 6) rfl (.inl s_things_pair))) (a_of_d (d_of_o (o_sl (a_name (pe_var (i := 6) rfl (.inl s_things_pair))) (pt_none) (pt_some (d_int)))))))) (l_nil))))))))))))) (ss_cons (s_set (i := 7) sc_things.nd rfl (.inl s_things_found) (o_op ao_add (a_name (pe_var (i := 7) rfl (.inl s_things_found))) (a_of_d (d_of_o (o_lst (l_cons (a_of_d (d_of_o (o_rev2 (a_name (pe_var (i := 5) rfl (.inl s_things_news)))))) (l_cons (a_of_d (d_of_o (o_op ao_add (a_name (pe_var (i := 5) rfl (.inl s_things_news))) (a_of_d (d_of_o (o_sl (a_name (pe_var (i := 5) rfl (.inl s_things_news))) (pt_some (d_neg (d_int))) (pt_none))))))) (l_cons (a_of_d (d_of_o (o_sl (a_name (pe_var (i := 5) rfl (.inl s_things_news))) (pt_none) (pt_some (d_int))))) (l_cons (a_of_d (d_of_o (o_callTy co_list s_things_list Z.n_list b_list (l_cons (a_name (pe_var (i := 5) rfl (.inl s_things_news))) (l_nil))))) (l_cons (a_of_d (d_of_o (o_callTy co_tuple s_things_tuple Z.n_tuple b_tuple (l_cons (a_of_d (d_of_o (o_comp (n := 12) (own := [("one", 11)]) rfl sc_things.nd (i_seq (d_name (pe_var (i := 5) rfl (.inl s_things_news)))) (blkOk_by (N := ["tap", "towns", "pairs", "row", "lot", "news", "pair", "found", "at", "odd", "rows", "one"]) (sc := defScope st_things) (own := [("one", 11)]) (by decide +kernel)) (fun _ _ _ _ _ => pg_name (i := 11) sc_things.nd rfl (.inl rfl)) (g_name) (fun _ _ _ _ _ => c_none) (fun _ _ _ _ _ => d_of_o (o_sl (a_name (pe_var (i := 11) rfl (.inl rfl))) (pt_none) (pt_some (d_int))))))) (l_nil))))) (l_cons (a_of_d (d_of_o (o_callTy co_list s_things_list Z.n_list b_list (l_cons (a_name (pe_var (i := 3) rfl (.inl s_things_row))) (l_nil))))) (l_nil)))))))))))) (ss_cons (s_for (n := 12) (passes_of rfl) rfl (i_seq (d_tup (l_cons (a_of_d (d_tup (l_cons (a_of_d (d_int)) (l_cons (a_of_d (d_of_o (o_rev2 (a_name (pe_var (i := 6) rfl (.inl s_things_pair)))))) (l_nil))))) (l_cons (a_of_d (d_tup (l_cons (a_of_d (d_int)) (l_cons (a_of_d (d_tup (l_cons (a_of_d (d_int)) (l_cons (a_of_d (d_neg (d_int))) (l_nil))))) (l_nil))))) (l_cons (a_of_d (d_tup (l_cons (a_of_d (d_int)) (l_cons (a_of_d (d_tup (l_cons (a_of_d (d_bool)) (l_cons (a_of_d (d_int)) (l_nil))))) (l_nil))))) (l_cons (a_of_d (d_tup (l_cons (a_of_d (d_int)) (l_cons (a_of_d (d_of_o (o_lst (l_cons (a_of_d (d_int)) (l_cons (a_of_d (d_int)) (l_nil)))))) (l_nil))))) (l_cons (a_of_d (d_tup (l_cons (a_of_d (d_int)) (l_cons (a_of_d (d_tup (l_cons (a_of_d (d_int)) (l_cons (a_of_d (d_int)) (l_cons (a_of_d (d_int)) (l_nil)))))) (l_nil))))) (l_cons (a_of_d (d_tup (l_cons (a_of_d (d_int)) (l_cons (a_of_d (d_str)) (l_nil))))) (l_cons (a_of_d (d_tup (l_cons (a_of_d (d_int)) (l_cons (a_of_d (d_str)) (l_nil))))) (l_nil)))))))))) (pg_tup (n := 2) rfl (pgs_cons (pg_name (i := 8) sc_things.nd rfl (.inl s_things_at)) (pgs_cons (pg_name (i := 9) sc_things.nd rfl (.inl s_things_odd)) (pgs_nil)))) (g_tup (.cons (g_name) (.cons (g_name) (.nil)))) (ss_one (s_expr (x_append (pe_var (i := 7) rfl (.inl s_things_found)) (d_of_o (o_op ao_add (a_of_d (d_of_o (o_op ao_add (a_of_d (d_of_o (o_sl (a_name (pe_var (i := 3) rfl (.inl s_things_row))) (pt_none) (pt_some (d_name (pe_var (i := 8) rfl (.inl s_things_at))))))) (a_of_d (d_tup (l_cons (a_of_d (d_name (pe_var (i := 9) rfl (.inl s_things_odd)))) (l_nil))))))) (a_of_d (d_of_o (o_sl (a_name (pe_var (i := 3) rfl (.inl s_things_row))) (pt_some (d_of_o (o_op ao_add (a_name (pe_var (i := 8) rfl (.inl s_things_at))) (a_of_d (d_int))))) (pt_none)))))))))) (ss_cons (s_for (n := 12) (passes_of rfl) rfl (i_seq (d_tup (l_cons (a_of_d (d_tup (l_cons (a_of_d (d_int)) (l_cons (a_of_d (d_neg (d_int))) (l_nil))))) (l_cons (a_of_d (d_tup (l_cons (a_of_d (d_int)) (l_cons (a_of_d (d_op od_pow (a_of_d (d_int)) (a_of_d (d_int)))) (l_nil))))) (l_cons (a_of_d (d_tup (l_cons (a_of_d (d_int)) (l_cons (a_of_d (d_bool)) (l_nil))))) (l_cons (a_of_d (d_tup (l_cons (a_of_d (d_int)) (l_cons (a_of_d (d_none)) (l_nil))))) (l_cons (a_of_d (d_tup (l_cons (a_of_d (d_int)) (l_cons (a_of_d (d_int)) (l_nil))))) (l_cons (a_of_d (d_tup (l_cons (a_of_d (d_int)) (l_cons (a_of_d (d_none)) (l_nil))))) (l_cons (a_of_d (d_tup (l_cons (a_of_d (d_int)) (l_cons (a_of_d (d_str)) (l_nil))))) (l_cons (a_of_d (d_tup (l_cons (a_of_d (d_int)) (l_cons (a_of_d (d_str)) (l_nil))))) (l_nil))))))))))) (pg_tup (n := 2) rfl (pgs_cons (pg_name (i := 8) sc_things.nd rfl (.inl s_things_at)) (pgs_cons (pg_name (i := 9) sc_things.nd rfl (.inl s_things_odd)) (pgs_nil)))) (g_tup (.cons (g_name) (.cons (g_name) (.nil)))) (ss_one (s_expr (x_append (pe_var (i := 7) rfl (.inl s_things_found)) (d_of_o (o_op ao_add (a_of_d (d_of_o (o_op ao_add (a_of_d (d_of_o (o_sl (a_name (pe_var (i := 3) rfl (.inl s_things_row))) (pt_none) (pt_some (d_name (pe_var (i := 8) rfl (.inl s_things_at))))))) (a_of_d (d_tup (l_cons (a_of_d (d_name (pe_var (i := 9) rfl (.inl s_things_odd)))) (l_nil))))))) (a_of_d (d_of_o (o_sl (a_name (pe_var (i := 3) rfl (.inl s_things_row))) (pt_some (d_of_o (o_op ao_add (a_name (pe_var (i := 8) rfl (.inl s_things_at))) (a_of_d (d_int))))) (pt_none)))))))))) (ss_cons (s_for (n := 12) (passes_of rfl) rfl (i_seq (d_tup (l_cons (a_of_d (d_of_o (o_rev2 (a_of_d (d_ix (a_name (pe_var (i := 4) rfl (.inl s_things_lot))) (a_of_d (d_int)) (fun _ _ => rfl)))))) (l_cons (a_of_d (d_of_o (o_op ao_add (a_of_d (d_ix (a_name (pe_var (i := 4) rfl (.inl s_things_lot))) (a_of_d (d_int)) (fun _ _ => rfl))) (a_of_d (d_of_o (o_sl (a_of_d (d_ix (a_name (pe_var (i := 4) rfl (.inl s_things_lot))) (a_of_d (d_int)) (fun _ _ => rfl))) (pt_some (d_neg (d_int))) (pt_none))))))) (l_cons (a_of_d (d_of_o (o_callTy co_list s_things_list Z.n_list b_list (l_cons (a_of_d (d_ix (a_name (pe_var (i := 4) rfl (.inl s_things_lot))) (a_of_d (d_int)) (fun _ _ => rfl))) (l_nil))))) (l_cons (a_of_d (d_tup (l_cons (a_of_d (d_name (pe_var (i := 3) rfl (.inl s_things_row)))) (l_nil)))) (l_cons (a_of_d (d_tup (l_cons (a_of_d (d_name (pe_var (i := 3) rfl (.inl s_things_row)))) (l_cons (a_of_d (d_of_o (o_op ao_add (a_of_d (d_of_o (o_sl (a_name (pe_var (i := 3) rfl (.inl s_things_row))) (pt_none) (pt_some (d_int))))) (a_of_d (d_tup (l_cons (a_of_d (d_not (d_ix (a_name (pe_var (i := 3) rfl (.inl s_things_row))) (a_of_d (d_int)) (fun _ _ => rfl)))) (l_nil))))))) (l_nil))))) (l_cons (a_of_d (d_tup (l_cons (a_of_d (d_tup (l_nil))) (l_nil)))) (l_nil))))))))) (pg_name (i := 10) sc_things.nd rfl (.inl s_things_rows)) (g_name) (ss_one (s_expr (x_append (pe_var (i := 7) rfl (.inl s_things_found)) (d_of_o (o_op ao_add (a_of_d (d_of_o (o_sl (a_name (pe_var (i := 4) rfl (.inl s_things_lot))) (pt_none) (pt_some (d_int))))) (a_of_d (d_tup (l_cons (a_of_d (d_name (pe_var (i := 10) rfl (.inl s_things_rows)))) (l_nil)))))))))) (ss_cons (s_set (i := 7) sc_things.nd rfl (.inl s_things_found) (o_op ao_add (a_name (pe_var (i := 7) rfl (.inl s_things_found))) (a_of_d (d_of_o (o_lst (l_cons (a_of_d (d_of_o (o_op ao_add (a_of_d (d_tup (l_cons (a_of_d (d_neg (d_int))) (l_nil)))) (a_of_d (d_of_o (o_sl (a_name (pe_var (i := 4) rfl (.inl s_things_lot))) (pt_some (d_int)) (pt_none))))))) (l_cons (a_of_d (d_tup (l_cons (a_of_d (d_ix (a_name (pe_var (i := 4) rfl (.inl s_things_lot))) (a_of_d (d_int)) (fun _ _ => rfl))) (l_cons (a_of_d (d_bool)) (l_cons (a_of_d (d_tup (l_nil))) (l_nil)))))) (l_cons (a_of_d (d_tup (l_cons (a_of_d (d_op od_pow (a_of_d (d_int)) (a_of_d (d_int)))) (l_cons (a_of_d (d_op od_pow (a_of_d (d_int)) (a_of_d (d_int)))) (l_cons (a_of_d (d_tup (l_nil))) (l_nil)))))) (l_cons (a_of_d (d_of_o (o_sl (a_name (pe_var (i := 4) rfl (.inl s_things_lot))) (pt_none) (pt_some (d_int))))) (l_cons (a_of_d (d_of_o (o_op ao_add (a_name (pe_var (i := 4) rfl (.inl s_things_lot))) (a_of_d (d_tup (l_cons (a_of_d (d_int)) (l_nil))))))) (l_cons (a_of_d (d_tup (l_cons (a_of_d (d_int)) (l_cons (a_of_d (d_int)) (l_cons (a_of_d (d_tup (l_nil))) (l_nil)))))) (l_nil)))))))))))) (ss_cons (s_set (i := 7) sc_things.nd rfl (.inl s_things_found) (o_op ao_add (a_name (pe_var (i := 7) rfl (.inl s_things_found))) (a_of_d (d_of_o (o_lst (l_cons (a_of_d (d_tup (l_cons (a_of_d (d_tup (l_cons (a_of_d (d_str)) (l_cons (a_of_d (d_int)) (l_cons (a_of_d (d_int)) (l_nil)))))) (l_cons (a_of_d (d_tup (l_cons (a_of_d (d_str)) (l_cons (a_of_d (d_int)) (l_cons (a_of_d (d_int)) (l_cons (a_of_d (d_int)) (l_nil))))))) (l_nil))))) (l_cons (a_of_d (d_tup (l_cons (a_of_d (d_tup (l_cons (a_of_d (d_str)) (l_cons (a_of_d (d_int)) (l_cons (a_of_d (d_neg (d_int))) (l_nil)))))) (l_nil)))) (l_cons (a_of_d (d_tup (l_cons (a_of_d (d_tup (l_cons (a_of_d (d_str)) (l_cons (a_of_d (d_int)) (l_cons (a_of_d (d_int)) (l_nil)))))) (l_nil)))) (l_cons (a_of_d (d_tup (l_cons (a_of_d (d_tup (l_cons (a_of_d (d_str)) (l_cons (a_of_d (d_bool)) (l_cons (a_of_d (d_int)) (l_nil)))))) (l_nil)))) (l_nil)))))))))) (ss_cons (s_set (i := 7) sc_things.nd rfl (.inl s_things_found) (o_op ao_add (a_name (pe_var (i := 7) rfl (.inl s_things_found))) (a_of_d (d_of_o (o_lst (l_cons (a_of_d (d_of_o (o_op ao_add (a_name (pe_var (i := 5) rfl (.inl s_things_news))) (a_of_d (d_tup (l_cons (a_of_d (d_tup (l_cons (a_of_d (d_ix (a_of_d (d_ix (a_name (pe_var (i := 5) rfl (.inl s_things_news))) (a_of_d (d_neg (d_int))) (fun _ _ => rfl))) (a_of_d (d_int)) (fun _ _ => rfl))) (l_cons (a_of_d (d_ix (a_of_d (d_ix (a_name (pe_var (i := 5) rfl (.inl s_things_news))) (a_of_d (d_neg (d_int))) (fun _ _ => rfl))) (a_of_d (d_int)) (fun _ _ => rfl))) (l_cons (a_of_d (d_of_o (o_op ao_add (a_of_d (d_ix (a_of_d (d_ix (a_name (pe_var (i := 5) rfl (.inl s_things_news))) (a_of_d (d_neg (d_int))) (fun _ _ => rfl))) (a_of_d (d_int)) (fun _ _ => rfl))) (a_of_d (d_int))))) (l_nil)))))) (l_nil))))))) (l_cons (a_of_d (d_tup (l_cons (a_of_d (d_tup (l_cons (a_of_d (d_str)) (l_cons (a_of_d (d_neg (d_int))) (l_cons (a_of_d (d_int)) (l_nil)))))) (l_nil)))) (l_cons (a_of_d (d_tup (l_cons (a_of_d (d_tup (l_cons (a_of_d (d_str)) (l_cons (a_of_d (d_int)) (l_cons (a_of_d (d_bool)) (l_nil)))))) (l_nil)))) (l_nil))))))))) (ss_cons (s_set (i := 7) sc_things.nd rfl (.inl s_things_found) (o_op ao_add (a_name (pe_var (i := 7) rfl (.inl s_things_found))) (a_of_d (d_of_o (o_lst (l_cons (a_of_d (d_str)) (l_cons (a_of_d (d_str)) (l_cons (a_of_d (d_str)) (l_cons (a_of_d (d_str)) (l_cons (a_of_d (d_str)) (l_cons (a_of_d (d_tup (l_cons (a_of_d (d_int)) (l_cons (a_of_d (d_neg (d_int))) (l_cons (a_of_d (d_tup (l_nil))) (l_nil)))))) (l_nil)))))))))))) (ss_cons (s_for (n := 12) (passes_of rfl) rfl (i_seq (d_tup (l_cons (a_of_d (d_tup (l_cons (a_of_d (d_int)) (l_cons (a_of_d (d_str)) (l_nil))))) (l_cons (a_of_d (d_tup (l_cons (a_of_d (d_int)) (l_cons (a_of_d (d_str)) (l_nil))))) (l_cons (a_of_d (d_tup (l_cons (a_of_d (d_int)) (l_cons (a_of_d (d_str)) (l_nil))))) (l_cons (a_of_d (d_tup (l_cons (a_of_d (d_int)) (l_cons (a_of_d (d_str)) (l_nil))))) (l_cons (a_of_d (d_tup (l_cons (a_of_d (d_int)) (l_cons (a_of_d (d_neg (d_int))) (l_nil))))) (l_cons (a_of_d (d_tup (l_cons (a_of_d (d_int)) (l_cons (a_of_d (d_tup (l_cons (a_of_d (d_neg (d_int))) (l_cons (a_of_d (d_int)) (l_nil))))) (l_nil))))) (l_nil))))))))) (pg_tup (n := 2) rfl (pgs_cons (pg_name (i := 8) sc_things.nd rfl (.inl s_things_at)) (pgs_cons (pg_name (i := 9) sc_things.nd rfl (.inl s_things_odd)) (pgs_nil)))) (g_tup (.cons (g_name) (.cons (g_name) (.nil)))) (ss_one (s_expr (x_append (pe_var (i := 7) rfl (.inl s_things_found)) (d_of_o (o_op ao_add (a_of_d (d_of_o (o_op ao_add (a_of_d (d_of_o (o_sl (a_name (pe_var (i := 3) rfl (.inl s_things_row))) (pt_none) (pt_some (d_name (pe_var (i := 8) rfl (.inl s_things_at))))))) (a_of_d (d_tup (l_cons (a_of_d (d_name (pe_var (i := 9) rfl (.inl s_things_odd)))) (l_nil))))))) (a_of_d (d_of_o (o_sl (a_name (pe_var (i := 3) rfl (.inl s_things_row))) (pt_some (d_of_o (o_op ao_add (a_name (pe_var (i := 8) rfl (.inl s_things_at))) (a_of_d (d_int))))) (pt_none)))))))))) (ss_one (s_ret (o_take (pe_var (i := 7) rfl (.inl s_things_found)))))))))))))))
theorem ok_great {f : Addr} {fd : FuncData} (Z : Zs K mg f_is_count d_is_count f_is_tuple_of d_is_tuple_of f_rises d_rises f_is_word d_is_word f_is_hand d_is_hand f_is_pair d_is_pair f_is_stamp d_is_stamp f_is_row d_is_row f_is_rights d_is_rights f_is_told_rise d_is_told_rise f_is_heard d_is_heard f_tap d_tap f_take d_take f_odd d_odd f_bend d_bend f_towns d_towns f_seats d_seats f_twos d_twos f_row d_row f_lot d_lot f_news d_news f_number d_number f_word d_word f_hand d_hand f_pair d_pair f_own_is_row d_own_is_row f_rise d_rise f_is_lot d_is_lot f_is_triple d_is_triple f_is_news d_is_news f_things d_things f_great d_great) (F0 : Fun K "_law_great" "_law_great" st_great f fd)  : FnG P w K mg base (L2.CX P w) 1 f fd [] (spI K XR 0 Lw.fn_great) := by
  refine okI (N := ["letters", "words", "rows", "news", "k", "word"]) (ps := []) (k := 0) (body := Lw.m_great) [] F0 sc_great rfl (by decide) fun cdv A outer s H E hg hr => ?_
  have hu := hr.units
  have hu1 := hr.units1
  have tk : Takes (cxOf (L2.CX P w) P w K mg base ["letters", "words", "rows", "news", "k", "word"] "_law_great" (defScope st_great) f cdv A outer s H E) (fun cls d _ H' => E cls d H') := takes_of rfl rfl rfl rfl
  exact ss_cons (s_set (i := 0) sc_great.nd rfl (.inr s_great_letters) (o_of_d (d_str))) (ss_cons (s_set (i := 1) sc_great.nd rfl (.inl s_great_words) (o_call (co_sorted hu) s_great_sorted Z.n_sorted b_sorted (l_cons (a_of_d (d_of_o (o_comp (n := 6) (own := [("k", 4)]) rfl sc_great.nd (i_range1 s_great_range Z.n_range (l_cons (a_of_d (d_int)) (l_nil))) (blkOk_by (N := ["letters", "words", "rows", "news", "k", "word"]) (sc := defScope st_great) (own := [("k", 4)]) (by decide +kernel)) (fun _ _ _ _ _ => pg_name (i := 4) sc_great.nd rfl (.inl rfl)) (g_name) (fun _ _ _ _ _ => c_none) (fun _ _ _ _ _ => d_of_o (o_op ao_add (a_of_d (d_ix (a_name (pe_var (i := 0) rfl (.inr (.inl (blk_look (sc := defScope st_great) rfl (by decide +kernel)))))) (a_of_d (d_op od_floorW (a_name (pe_var (i := 4) rfl (.inl rfl))) (a_of_d (d_int)))) (fun _ _ => rfl))) (a_of_d (d_ix (a_name (pe_var (i := 0) rfl (.inr (.inl (blk_look (sc := defScope st_great) rfl (by decide +kernel)))))) (a_of_d (d_op od_mod (a_name (pe_var (i := 4) rfl (.inl rfl))) (a_of_d (d_int)))) (fun _ _ => rfl)))))))) (l_nil)))) (ss_cons (s_set (i := 2) sc_great.nd rfl (.inl s_great_rows) (o_callTy co_tuple s_great_tuple Z.n_tuple b_tuple (l_cons (a_of_d (d_of_o (o_comp (n := 6) (own := [("k", 4), ("word", 5)]) rfl sc_great.nd (i_enum s_great_enumerate Z.n_enumerate (d_name (pe_var (i := 1) rfl (.inl s_great_words)))) (blkOk_by (N := ["letters", "words", "rows", "news", "k", "word"]) (sc := defScope st_great) (own := [("k", 4), ("word", 5)]) (by decide +kernel)) (fun _ _ _ _ _ => pg_tup (n := 2) rfl (pgs_cons (pg_name (i := 4) sc_great.nd rfl (.inl rfl)) (pgs_cons (pg_name (i := 5) sc_great.nd rfl (.inl rfl)) (pgs_nil)))) (g_tup (.cons (g_name) (.cons (g_name) (.nil)))) (fun _ _ _ _ _ => c_none) (fun _ _ _ _ _ => d_tup (l_cons (a_of_d (d_tup (l_cons (a_of_d (d_tup (l_cons (a_of_d (d_str)) (l_cons (a_of_d (d_str)) (l_nil))))) (l_cons (a_of_d (d_tup (l_cons (a_of_d (d_str)) (l_cons (a_of_d (d_of_o (o_op ao_add (a_of_d (d_str)) (a_name (pe_var (i := 5) rfl (.inl rfl)))))) (l_nil))))) (l_nil))))) (l_cons (a_of_d (d_tup (l_cons (a_of_d (d_name (pe_var (i := 4) rfl (.inl rfl)))) (l_cons (a_of_d (d_int)) (l_nil))))) (l_cons (a_of_d (d_name (pe_var (i := 5) rfl (.inl rfl)))) (l_cons (a_of_d (d_str)) (l_cons (a_of_d (d_int)) (l_cons (a_of_d (d_int)) (l_cons (a_of_d (d_bool)) (l_nil)))))))))))) (l_nil)))) (ss_cons (s_set (i := 3) sc_great.nd rfl (.inl s_great_news) (o_callTy co_tuple s_great_tuple Z.n_tuple b_tuple (l_cons (a_of_d (d_of_o (o_comp (n := 6) (own := [("k", 4), ("word", 5)]) rfl sc_great.nd (i_enum s_great_enumerate Z.n_enumerate (d_name (pe_var (i := 1) rfl (.inl s_great_words)))) (blkOk_by (N := ["letters", "words", "rows", "news", "k", "word"]) (sc := defScope st_great) (own := [("k", 4), ("word", 5)]) (by decide +kernel)) (fun _ _ _ _ _ => pg_tup (n := 2) rfl (pgs_cons (pg_name (i := 4) sc_great.nd rfl (.inl rfl)) (pgs_cons (pg_name (i := 5) sc_great.nd rfl (.inl rfl)) (pgs_nil)))) (g_tup (.cons (g_name) (.cons (g_name) (.nil)))) (fun _ _ _ _ _ => c_none) (fun _ _ _ _ _ => d_tup (l_cons (a_of_d (d_name (pe_var (i := 5) rfl (.inl rfl)))) (l_cons (a_of_d (d_name (pe_var (i := 4) rfl (.inl rfl)))) (l_cons (a_of_d (d_op od_pow (a_of_d (d_int)) (a_of_d (d_int)))) (l_nil)))))))) (l_nil)))) (ss_one (s_ret (o_lst (l_cons (a_of_d (d_tup (l_cons (a_of_d (d_int)) (l_cons (a_of_d (d_int)) (l_cons (a_of_d (d_name (pe_var (i := 2) rfl (.inl s_great_rows)))) (l_nil)))))) (l_cons (a_of_d (d_tup (l_cons (a_of_d (d_int)) (l_cons (a_of_d (d_int)) (l_cons (a_of_d (d_of_o (o_op ao_add (a_of_d (d_of_o (o_sl (a_name (pe_var (i := 2) rfl (.inl s_great_rows))) (pt_none) (pt_some (d_neg (d_int)))))) (a_of_d (d_of_o (o_revTo (j := 2) (by decide) (a_name (pe_var (i := 2) rfl (.inl s_great_rows))))))))) (l_nil)))))) (l_cons (a_of_d (d_name (pe_var (i := 3) rfl (.inl s_great_news)))) (l_cons (a_of_d (d_of_o (o_op ao_add (a_of_d (d_of_o (o_sl (a_name (pe_var (i := 3) rfl (.inl s_great_news))) (pt_none) (pt_some (d_neg (d_int)))))) (a_of_d (d_of_o (o_revTo (j := 2) (by decide) (a_name (pe_var (i := 3) rfl (.inl s_great_news))))))))) (l_nil)))))))))))
theorem ok_law {f : Addr} {fd : FuncData} (Z : Zs K mg f_is_count d_is_count f_is_tuple_of d_is_tuple_of f_rises d_rises f_is_word d_is_word f_is_hand d_is_hand f_is_pair d_is_pair f_is_stamp d_is_stamp f_is_row d_is_row f_is_rights d_is_rights f_is_told_rise d_is_told_rise f_is_heard d_is_heard f_tap d_tap f_take d_take f_odd d_odd f_bend d_bend f_towns d_towns f_seats d_seats f_twos d_twos f_row d_row f_lot d_lot f_news d_news f_number d_number f_word d_word f_hand d_hand f_pair d_pair f_own_is_row d_own_is_row f_rise d_rise f_is_lot d_is_lot f_is_triple d_is_triple f_is_news d_is_news f_things d_things f_great d_great) (F0 : Fun K "law" "law" st_law f fd) (F_tap : FnG P w K mg base (L2.CX P w) 1 f_tap d_tap ["script"] (spI K XR 1 Lw.fn_tap)) (F_towns : FnG P w K mg base (L2.CX P w) 2 f_towns d_towns ["tap", "least"] (spI K XR 2 Lw.fn_towns)) (F_twos : FnG P w K mg base (L2.CX P w) 1 f_twos d_twos ["people"] (spI K XR 1 Lw.fn_twos)) (F_seats : FnG P w K mg base (L2.CX P w) 2 f_seats d_seats ["tap", "towns", "many"] (spI K XR 3 Lw.fn_seats)) (F_things : FnG P w K mg base (L2.CX P w) 4 f_things d_things ["tap", "towns", "pairs"] (spI K XR 3 Lw.fn_things)) (F_great : FnG P w K mg base (L2.CX P w) 1 f_great d_great [] (spI K XR 0 Lw.fn_great)) (F_bend : FnG P w K mg base (L2.CX P w) 10 f_bend d_bend ["tap", "thing", "deep"] (spI K XR 3 (Lw.fn_bend 7))) (F_take : FnG P w K mg base (L2.CX P w) 1 f_take d_take ["tap", "many"] (spI K XR 2 Lw.fn_take)) (F_odd : FnG P w K mg base (L2.CX P w) 2 f_odd d_odd ["tap"] (spI K XR 1 Lw.fn_odd)) (F_is_lot : FnG P w K mg base (L2.CX P w) 5 f_is_lot d_is_lot ["thing"] (spI K XR 1 Lw.fn_is_lot)) (F_own_is_row : FnG P w K mg base (L2.CX P w) 4 f_own_is_row d_own_is_row ["thing"] (spI K XR 1 Lw.fn_own_is_row)) (F_pair : FnG P w K mg base (L2.CX P w) 3 f_pair d_pair ["thing"] (spI K XR 1 Lw.fn_pair)) (F_hand : FnG P w K mg base (L2.CX P w) 2 f_hand d_hand ["thing"] (spI K XR 1 Lw.fn_hand)) (F_word : FnG P w K mg base (L2.CX P w) 1 f_word d_word ["thing"] (spI K XR 1 Lw.fn_word)) (F_is_rights : FnG P w K mg base (L2.CX P w) 5 f_is_rights d_is_rights ["thing"] (spI K XR 1 Lw.fn_is_rights)) (F_is_row : FnG P w K mg base (L2.CX P w) 4 f_is_row d_is_row ["thing"] (spI K XR 1 Lw.fn_is_row)) (F_is_pair : FnG P w K mg base (L2.CX P w) 3 f_is_pair d_is_pair ["thing"] (spI K XR 1 Lw.fn_is_pair)) (F_is_hand : FnG P w K mg base (L2.CX P w) 2 f_is_hand d_is_hand ["thing"] (spI K XR 1 Lw.fn_is_hand)) (F_is_word : FnG P w K mg base (L2.CX P w) 1 f_is_word d_is_word ["thing"] (spI K XR 1 Lw.fn_is_word)) (F_is_heard : FnG P w K mg base (L2.CX P w) 3 f_is_heard d_is_heard ["thing"] (spI K XR 1 Lw.fn_is_heard)) (F_is_news : FnG P w K mg base (L2.CX P w) 3 f_is_news d_is_news ["thing"] (spI K XR 1 Lw.fn_is_news)) : FnG P w K mg base (L2.CX P w) 11 f fd ["script"] (spI K XR 1 Lw.fn_law_k01) := by
  refine okI (N := ["script", "tap", "towns", "pairs", "things", "k", "bend", "thing", "kept", "due", "looks"]) (ps := ["script"]) (k := 10) (body := Lw.m_law_k01) [false] F0 sc_law rfl (by decide) fun cdv A outer s H E hg hr => ?_
  have hu := hr.units
  have hu1 := hr.units1
  have tk : Takes (cxOf (L2.CX P w) P w K mg base ["script", "tap", "towns", "pairs", "things", "k", "bend", "thing", "kept", "due", "looks"] "law" (defScope st_law) f cdv A outer s H E) (fun cls d _ H' => E cls d H') := takes_of rfl rfl rfl rfl
  exact ss_cons (s_set (i := 1) sc_law.nd rfl (.inl s_law_tap) (o_fn F_tap hg (hr.mono (by decide)) s_law__law_tap Z.g_tap Z.k_tap Z.b_tap tk (l_cons (a_name (pe_var (i := 0) rfl (.inl s_law_script))) (l_nil)) rfl (ll_cons (ll_nil)))) (ss_cons (s_set (i := 2) sc_law.nd rfl (.inl s_law_towns) (o_fnO F_towns hg (hr.mono (by decide)) s_law__law_towns Z.g_towns Z.k_towns Z.b_towns tk (l_cons (a_name (pe_var (i := 1) rfl (.inl s_law_tap))) (l_cons (a_of_d (d_int)) (l_nil))) rfl (ll_cons (ll_cons (ll_nil))))) (ss_cons (s_set (i := 3) sc_law.nd rfl (.inl s_law_pairs) (o_fn F_twos hg (hr.mono (by decide)) s_law__law_twos Z.g_twos Z.k_twos Z.b_twos tk (l_cons (a_of_d (d_of_o (o_fnO F_seats hg (hr.mono (by decide)) s_law__law_seats Z.g_seats Z.k_seats Z.b_seats tk (l_cons (a_name (pe_var (i := 1) rfl (.inl s_law_tap))) (l_cons (a_of_d (d_name (pe_var (i := 2) rfl (.inl s_law_towns)))) (l_cons (a_of_d (d_int)) (l_nil)))) rfl (ll_cons (ll_cons (ll_cons (ll_nil))))))) (l_nil)) rfl (ll_cons (ll_nil)))) (ss_cons (s_set (i := 4) sc_law.nd rfl (.inl s_law_things) (o_op ao_add (a_of_d (d_of_o (o_fnO F_things hg (hr.mono (by decide)) s_law__law_things Z.g_things Z.k_things Z.b_things tk (l_cons (a_name (pe_var (i := 1) rfl (.inl s_law_tap))) (l_cons (a_of_d (d_name (pe_var (i := 2) rfl (.inl s_law_towns)))) (l_cons (a_of_d (d_name (pe_var (i := 3) rfl (.inl s_law_pairs)))) (l_nil)))) rfl (ll_cons (ll_cons (ll_cons (ll_nil))))))) (a_of_d (d_of_o (o_fnP0 (n2 := 0) F_great hg (hr.mono (by decide)) s_law__law_great Z.g_great Z.k_great Z.p_great_0_ Z.q_great_0_ rfl rfl tk (k_nil) (ll_nil)))))) (ss_cons (s_for (n := 11) (passes_of rfl) rfl (i_range1 s_law_range Z.n_range (l_cons (a_of_d (d_int)) (l_nil))) (pg_name (i := 5) sc_law.nd rfl (.inl s_law_k)) (g_name) (ss_cons (s_set (i := 6) sc_law.nd rfl (.inl s_law_bend) (o_fnO F_bend hg (hr.mono (by decide)) s_law__law_bend Z.g_bend Z.k_bend Z.b_bend tk (l_cons (a_name (pe_var (i := 1) rfl (.inl s_law_tap))) (l_cons (a_of_d (d_ix (a_name (pe_var (i := 4) rfl (.inl s_law_things))) (a_of_d (d_of_o (o_fnO F_take hg (hr.mono (by decide)) s_law__law_take Z.g_take Z.k_take Z.b_take tk (l_cons (a_name (pe_var (i := 1) rfl (.inl s_law_tap))) (l_cons (a_of_d (d_int)) (l_nil))) rfl (ll_cons (ll_cons (ll_nil)))))) (fun _ _ => rfl))) (l_cons (a_of_d (d_int)) (l_nil)))) rfl (ll_cons (ll_cons (ll_cons (ll_nil)))))) (ss_one (s_set (i := 4) sc_law.nd rfl (.inl s_law_things) (o_op ao_add (a_name (pe_var (i := 4) rfl (.inl s_law_things))) (a_of_d (d_of_o (o_lst (l_cons (a_of_d (d_name (pe_var (i := 6) rfl (.inl s_law_bend)))) (l_cons (a_of_d (d_of_o (o_fnO F_bend hg (hr.mono (by decide)) s_law__law_bend Z.g_bend Z.k_bend Z.b_bend tk (l_cons (a_name (pe_var (i := 1) rfl (.inl s_law_tap))) (l_cons (a_of_d (d_name (pe_var (i := 6) rfl (.inl s_law_bend)))) (l_cons (a_of_d (d_int)) (l_nil)))) rfl (ll_cons (ll_cons (ll_cons (ll_nil))))))) (l_cons (a_of_d (d_of_o (o_fnO F_odd hg (hr.mono (by decide)) s_law__law_odd Z.g_odd Z.k_odd Z.b_odd tk (l_cons (a_name (pe_var (i := 1) rfl (.inl s_law_tap))) (l_nil)) rfl (ll_cons (ll_nil))))) (l_nil)))))))))))) (ss_cons (s_for (n := 11) (passes_of rfl) rfl (i_seq (d_name (pe_var (i := 4) rfl (.inl s_law_things)))) (pg_name (i := 7) sc_law.nd rfl (.inl s_law_thing)) (g_name) (ss_cons (s_set (i := 8) sc_law.nd rfl (.inl s_law_kept) (o_call (co_repr hg hu) s_law_repr Z.n_repr b_repr (l_cons (a_name (pe_var (i := 7) rfl (.inl s_law_thing))) (l_nil)))) (ss_cons (s_set (i := 9) sc_law.nd rfl (.inl s_law_due) (o_lst (l_cons (a_of_d (d_of_o (o_fn F_word hg (hr.mono (by decide)) s_law__law_word Z.g_word Z.k_word Z.b_word tk (l_cons (a_of_d (d_name (pe_var (i := 7) rfl (.inl s_law_thing)))) (l_nil)) rfl (ll_cons (ll_nil))))) (l_cons (a_of_d (d_of_o (o_fn F_hand hg (hr.mono (by decide)) s_law__law_hand Z.g_hand Z.k_hand Z.b_hand tk (l_cons (a_of_d (d_name (pe_var (i := 7) rfl (.inl s_law_thing)))) (l_nil)) rfl (ll_cons (ll_nil))))) (l_cons (a_of_d (d_of_o (o_fn F_pair hg (hr.mono (by decide)) s_law__law_pair Z.g_pair Z.k_pair Z.b_pair tk (l_cons (a_of_d (d_name (pe_var (i := 7) rfl (.inl s_law_thing)))) (l_nil)) rfl (ll_cons (ll_nil))))) (l_cons (a_of_d (d_of_o (o_fn F_own_is_row hg (hr.mono (by decide)) s_law__law_is_row Z.g_own_is_row Z.k_own_is_row Z.b_own_is_row tk (l_cons (a_of_d (d_name (pe_var (i := 7) rfl (.inl s_law_thing)))) (l_nil)) rfl (ll_cons (ll_nil))))) (l_cons (a_of_d (d_of_o (o_fn F_is_lot hg (hr.mono (by decide)) s_law__law_is_lot Z.g_is_lot Z.k_is_lot Z.b_is_lot tk (l_cons (a_of_d (d_name (pe_var (i := 7) rfl (.inl s_law_thing)))) (l_nil)) rfl (ll_cons (ll_nil))))) (l_nil)))))))) (ss_cons (s_set (i := 10) sc_law.nd rfl (.inl s_law_looks) (o_lst (l_cons (a_of_d (d_of_o (o_fn F_is_word hg (hr.mono (by decide)) s_law_is_word Z.g_is_word Z.k_is_word Z.b_is_word tk (l_cons (a_of_d (d_name (pe_var (i := 7) rfl (.inl s_law_thing)))) (l_nil)) rfl (ll_cons (ll_nil))))) (l_cons (a_of_d (d_of_o (o_fn F_is_hand hg (hr.mono (by decide)) s_law_is_hand Z.g_is_hand Z.k_is_hand Z.b_is_hand tk (l_cons (a_of_d (d_name (pe_var (i := 7) rfl (.inl s_law_thing)))) (l_nil)) rfl (ll_cons (ll_nil))))) (l_cons (a_of_d (d_of_o (o_fn F_is_pair hg (hr.mono (by decide)) s_law_is_pair Z.g_is_pair Z.k_is_pair Z.b_is_pair tk (l_cons (a_of_d (d_name (pe_var (i := 7) rfl (.inl s_law_thing)))) (l_nil)) rfl (ll_cons (ll_nil))))) (l_cons (a_of_d (d_of_o (o_fn F_is_row hg (hr.mono (by decide)) s_law_is_row Z.g_is_row Z.k_is_row Z.b_is_row tk (l_cons (a_of_d (d_name (pe_var (i := 7) rfl (.inl s_law_thing)))) (l_nil)) rfl (ll_cons (ll_nil))))) (l_cons (a_of_d (d_of_o (o_fn F_is_rights hg (hr.mono (by decide)) s_law_is_rights Z.g_is_rights Z.k_is_rights Z.b_is_rights tk (l_cons (a_of_d (d_name (pe_var (i := 7) rfl (.inl s_law_thing)))) (l_nil)) rfl (ll_cons (ll_nil))))) (l_nil)))))))) (ss_one (s_if (t_w (w_or (t_cmp (od_ne hu) (a_of_d (d_of_o (o_call (co_repr hg hu) s_law_repr Z.n_repr b_repr (l_cons (a_of_d (d_of_o (o_op ao_add (a_name (pe_var (i := 10) rfl (.inl s_law_looks))) (a_of_d (d_of_o (o_lst (l_cons (a_of_d (d_of_o (o_fn F_is_heard hg (hr.mono (by decide)) s_law_is_heard Z.g_is_heard Z.k_is_heard Z.b_is_heard tk (l_cons (a_of_d (d_name (pe_var (i := 7) rfl (.inl s_law_thing)))) (l_nil)) rfl (ll_cons (ll_nil))))) (l_nil)))))))) (l_nil))))) (a_of_d (d_of_o (o_call (co_repr hg hu) s_law_repr Z.n_repr b_repr (l_cons (a_of_d (d_of_o (o_op ao_add (a_name (pe_var (i := 9) rfl (.inl s_law_due))) (a_of_d (d_of_o (o_lst (l_cons (a_of_d (d_of_o (o_fn F_is_news hg (hr.mono (by decide)) s_law__law_is_news Z.g_is_news Z.k_is_news Z.b_is_news tk (l_cons (a_of_d (d_name (pe_var (i := 7) rfl (.inl s_law_thing)))) (l_nil)) rfl (ll_cons (ll_nil))))) (l_nil)))))))) (l_nil)))))) (w_one2 (t_cmp (od_ne hu) (a_of_d (d_of_o (o_call (co_repr hg hu) s_law_repr Z.n_repr b_repr (l_cons (a_name (pe_var (i := 7) rfl (.inl s_law_thing))) (l_nil))))) (a_name (pe_var (i := 8) rfl (.inl s_law_kept))))))) (ss_one (s_ret (o_of_d (d_bool)))) (ss_nil))))))) (ss_one (s_ret (o_of_d (d_bool)))))))))
end
theorem all_in {l : PySem.W.OpenLaw} {w : World} {K : PySem.W.Frag} {h : Heap} {mg : Str → Option Value} {fa p_s0 p_s1 p_s2 p_s3 p_s4 p_s5 p_s6 p_s7 p_s8 p_s9 p_s10 p_s11 p_s12 p_s13 p_s14 p_s15 p_s16 p_s17 p_s18 p_s19 p_s20 p_s21 p_s22 p_s23 p_s24 p_s25 p_s26 p_s27 p_s28 p_s29 p_s30 p_s31 p_s32 : Addr} {XR : Hp → Hp → Value → Option Addr → Xc → Prop} (X : K.In h) (G : h.Ns mainGlobals mg) (hfa : mg "law" = some (.ref fa))
    {od_s0 an_s0 : Option Addr} {sl_s0 : Array (Option Value)} {oc_s0 kV_s0 dc_s0 pm_s0 cd_s0 ct_s0 : Value} (a_s0 : PySem.W.nsIn K mainGlobals "is_count" = some (some (.ref p_s0)))
    (l_s0 : K.lookup p_s0 = some ⟨oc_s0, od_s0, .func (PySem.W.fnOf "is_count" "is_count" (defArgs st_is_count) (defBody st_is_count) (defScope st_is_count) .none kV_s0 dc_s0 pm_s0 an_s0 cd_s0 ct_s0), sl_s0⟩) (c_s0 : PySem.W.codeIn K cd_s0 "is_count" = true) (k_s0 : PySem.W.keepIn K (.ref p_s0) = true)
    {od_s1 an_s1 : Option Addr} {sl_s1 : Array (Option Value)} {oc_s1 kV_s1 dc_s1 pm_s1 cd_s1 ct_s1 : Value} (a_s1 : PySem.W.nsIn K mainGlobals "is_tuple_of" = some (some (.ref p_s1)))
    (l_s1 : K.lookup p_s1 = some ⟨oc_s1, od_s1, .func (PySem.W.fnOf "is_tuple_of" "is_tuple_of" (defArgs st_is_tuple_of) (defBody st_is_tuple_of) (defScope st_is_tuple_of) .none kV_s1 dc_s1 pm_s1 an_s1 cd_s1 ct_s1), sl_s1⟩) (c_s1 : PySem.W.codeIn K cd_s1 "is_tuple_of" = true) (k_s1 : PySem.W.keepIn K (.ref p_s1) = true)
    {od_s2 an_s2 : Option Addr} {sl_s2 : Array (Option Value)} {oc_s2 kV_s2 dc_s2 pm_s2 cd_s2 ct_s2 : Value} (a_s2 : PySem.W.nsIn K mainGlobals "rises" = some (some (.ref p_s2)))
    (l_s2 : K.lookup p_s2 = some ⟨oc_s2, od_s2, .func (PySem.W.fnOf "rises" "rises" (defArgs st_rises) (defBody st_rises) (defScope st_rises) .none kV_s2 dc_s2 pm_s2 an_s2 cd_s2 ct_s2), sl_s2⟩) (c_s2 : PySem.W.codeIn K cd_s2 "rises" = true) (k_s2 : PySem.W.keepIn K (.ref p_s2) = true)
    {od_s3 an_s3 : Option Addr} {sl_s3 : Array (Option Value)} {oc_s3 kV_s3 dc_s3 pm_s3 cd_s3 ct_s3 : Value} (a_s3 : PySem.W.nsIn K mainGlobals "is_word" = some (some (.ref p_s3)))
    (l_s3 : K.lookup p_s3 = some ⟨oc_s3, od_s3, .func (PySem.W.fnOf "is_word" "is_word" (defArgs st_is_word) (defBody st_is_word) (defScope st_is_word) .none kV_s3 dc_s3 pm_s3 an_s3 cd_s3 ct_s3), sl_s3⟩) (c_s3 : PySem.W.codeIn K cd_s3 "is_word" = true) (k_s3 : PySem.W.keepIn K (.ref p_s3) = true)
    {od_s4 an_s4 : Option Addr} {sl_s4 : Array (Option Value)} {oc_s4 kV_s4 dc_s4 pm_s4 cd_s4 ct_s4 : Value} (a_s4 : PySem.W.nsIn K mainGlobals "is_hand" = some (some (.ref p_s4)))
    (l_s4 : K.lookup p_s4 = some ⟨oc_s4, od_s4, .func (PySem.W.fnOf "is_hand" "is_hand" (defArgs st_is_hand) (defBody st_is_hand) (defScope st_is_hand) .none kV_s4 dc_s4 pm_s4 an_s4 cd_s4 ct_s4), sl_s4⟩) (c_s4 : PySem.W.codeIn K cd_s4 "is_hand" = true) (k_s4 : PySem.W.keepIn K (.ref p_s4) = true)
    {od_s5 an_s5 : Option Addr} {sl_s5 : Array (Option Value)} {oc_s5 kV_s5 dc_s5 pm_s5 cd_s5 ct_s5 : Value} (a_s5 : PySem.W.nsIn K mainGlobals "is_pair" = some (some (.ref p_s5)))
    (l_s5 : K.lookup p_s5 = some ⟨oc_s5, od_s5, .func (PySem.W.fnOf "is_pair" "is_pair" (defArgs st_is_pair) (defBody st_is_pair) (defScope st_is_pair) .none kV_s5 dc_s5 pm_s5 an_s5 cd_s5 ct_s5), sl_s5⟩) (c_s5 : PySem.W.codeIn K cd_s5 "is_pair" = true) (k_s5 : PySem.W.keepIn K (.ref p_s5) = true)
    {od_s6 an_s6 : Option Addr} {sl_s6 : Array (Option Value)} {oc_s6 kV_s6 dc_s6 pm_s6 cd_s6 ct_s6 : Value} (a_s6 : PySem.W.nsIn K mainGlobals "is_stamp" = some (some (.ref p_s6)))
    (l_s6 : K.lookup p_s6 = some ⟨oc_s6, od_s6, .func (PySem.W.fnOf "is_stamp" "is_stamp" (defArgs st_is_stamp) (defBody st_is_stamp) (defScope st_is_stamp) .none kV_s6 dc_s6 pm_s6 an_s6 cd_s6 ct_s6), sl_s6⟩) (c_s6 : PySem.W.codeIn K cd_s6 "is_stamp" = true) (k_s6 : PySem.W.keepIn K (.ref p_s6) = true)
    {od_s7 an_s7 : Option Addr} {sl_s7 : Array (Option Value)} {oc_s7 kV_s7 dc_s7 pm_s7 cd_s7 ct_s7 : Value} (a_s7 : PySem.W.nsIn K mainGlobals "is_row" = some (some (.ref p_s7)))
    (l_s7 : K.lookup p_s7 = some ⟨oc_s7, od_s7, .func (PySem.W.fnOf "is_row" "is_row" (defArgs st_is_row) (defBody st_is_row) (defScope st_is_row) .none kV_s7 dc_s7 pm_s7 an_s7 cd_s7 ct_s7), sl_s7⟩) (c_s7 : PySem.W.codeIn K cd_s7 "is_row" = true) (k_s7 : PySem.W.keepIn K (.ref p_s7) = true)
    {od_s8 an_s8 : Option Addr} {sl_s8 : Array (Option Value)} {oc_s8 kV_s8 dc_s8 pm_s8 cd_s8 ct_s8 : Value} (a_s8 : PySem.W.nsIn K mainGlobals "is_rights" = some (some (.ref p_s8)))
    (l_s8 : K.lookup p_s8 = some ⟨oc_s8, od_s8, .func (PySem.W.fnOf "is_rights" "is_rights" (defArgs st_is_rights) (defBody st_is_rights) (defScope st_is_rights) .none kV_s8 dc_s8 pm_s8 an_s8 cd_s8 ct_s8), sl_s8⟩) (c_s8 : PySem.W.codeIn K cd_s8 "is_rights" = true) (k_s8 : PySem.W.keepIn K (.ref p_s8) = true)
    {od_s9 an_s9 : Option Addr} {sl_s9 : Array (Option Value)} {oc_s9 kV_s9 dc_s9 pm_s9 cd_s9 ct_s9 : Value} (a_s9 : PySem.W.nsIn K mainGlobals "is_told_rise" = some (some (.ref p_s9)))
    (l_s9 : K.lookup p_s9 = some ⟨oc_s9, od_s9, .func (PySem.W.fnOf "is_told_rise" "is_told_rise" (defArgs st_is_told_rise) (defBody st_is_told_rise) (defScope st_is_told_rise) .none kV_s9 dc_s9 pm_s9 an_s9 cd_s9 ct_s9), sl_s9⟩) (c_s9 : PySem.W.codeIn K cd_s9 "is_told_rise" = true) (k_s9 : PySem.W.keepIn K (.ref p_s9) = true)
    {od_s10 an_s10 : Option Addr} {sl_s10 : Array (Option Value)} {oc_s10 kV_s10 dc_s10 pm_s10 cd_s10 ct_s10 : Value} (a_s10 : PySem.W.nsIn K mainGlobals "is_heard" = some (some (.ref p_s10)))
    (l_s10 : K.lookup p_s10 = some ⟨oc_s10, od_s10, .func (PySem.W.fnOf "is_heard" "is_heard" (defArgs st_is_heard) (defBody st_is_heard) (defScope st_is_heard) .none kV_s10 dc_s10 pm_s10 an_s10 cd_s10 ct_s10), sl_s10⟩) (c_s10 : PySem.W.codeIn K cd_s10 "is_heard" = true) (k_s10 : PySem.W.keepIn K (.ref p_s10) = true)
    {od_s11 an_s11 : Option Addr} {sl_s11 : Array (Option Value)} {oc_s11 kV_s11 dc_s11 pm_s11 cd_s11 ct_s11 : Value} (a_s11 : PySem.W.nsIn K mainGlobals "_law_tap" = some (some (.ref p_s11)))
    (l_s11 : K.lookup p_s11 = some ⟨oc_s11, od_s11, .func (PySem.W.fnOf "_law_tap" "_law_tap" (defArgs st_tap) (defBody st_tap) (defScope st_tap) .none kV_s11 dc_s11 pm_s11 an_s11 cd_s11 ct_s11), sl_s11⟩) (c_s11 : PySem.W.codeIn K cd_s11 "_law_tap" = true) (k_s11 : PySem.W.keepIn K (.ref p_s11) = true)
    {od_s12 an_s12 : Option Addr} {sl_s12 : Array (Option Value)} {oc_s12 kV_s12 dc_s12 pm_s12 cd_s12 ct_s12 : Value} (a_s12 : PySem.W.nsIn K mainGlobals "_law_take" = some (some (.ref p_s12)))
    (l_s12 : K.lookup p_s12 = some ⟨oc_s12, od_s12, .func (PySem.W.fnOf "_law_take" "_law_take" (defArgs st_take) (defBody st_take) (defScope st_take) .none kV_s12 dc_s12 pm_s12 an_s12 cd_s12 ct_s12), sl_s12⟩) (c_s12 : PySem.W.codeIn K cd_s12 "_law_take" = true) (k_s12 : PySem.W.keepIn K (.ref p_s12) = true)
    {od_s13 an_s13 : Option Addr} {sl_s13 : Array (Option Value)} {oc_s13 kV_s13 dc_s13 pm_s13 cd_s13 ct_s13 : Value} (a_s13 : PySem.W.nsIn K mainGlobals "_law_odd" = some (some (.ref p_s13)))
    (l_s13 : K.lookup p_s13 = some ⟨oc_s13, od_s13, .func (PySem.W.fnOf "_law_odd" "_law_odd" (defArgs st_odd) (defBody st_odd) (defScope st_odd) .none kV_s13 dc_s13 pm_s13 an_s13 cd_s13 ct_s13), sl_s13⟩) (c_s13 : PySem.W.codeIn K cd_s13 "_law_odd" = true) (k_s13 : PySem.W.keepIn K (.ref p_s13) = true)
    {od_s14 an_s14 : Option Addr} {sl_s14 : Array (Option Value)} {oc_s14 kV_s14 dc_s14 pm_s14 cd_s14 ct_s14 : Value} (a_s14 : PySem.W.nsIn K mainGlobals "_law_bend" = some (some (.ref p_s14)))
    (l_s14 : K.lookup p_s14 = some ⟨oc_s14, od_s14, .func (PySem.W.fnOf "_law_bend" "_law_bend" (defArgs st_bend) (defBody st_bend) (defScope st_bend) .none kV_s14 dc_s14 pm_s14 an_s14 cd_s14 ct_s14), sl_s14⟩) (c_s14 : PySem.W.codeIn K cd_s14 "_law_bend" = true) (k_s14 : PySem.W.keepIn K (.ref p_s14) = true)
    {od_s15 an_s15 : Option Addr} {sl_s15 : Array (Option Value)} {oc_s15 kV_s15 dc_s15 pm_s15 cd_s15 ct_s15 : Value} (a_s15 : PySem.W.nsIn K mainGlobals "_law_towns" = some (some (.ref p_s15)))
    (l_s15 : K.lookup p_s15 = some ⟨oc_s15, od_s15, .func (PySem.W.fnOf "_law_towns" "_law_towns" (defArgs st_towns) (defBody st_towns) (defScope st_towns) .none kV_s15 dc_s15 pm_s15 an_s15 cd_s15 ct_s15), sl_s15⟩) (c_s15 : PySem.W.codeIn K cd_s15 "_law_towns" = true) (k_s15 : PySem.W.keepIn K (.ref p_s15) = true)
    {od_s16 an_s16 : Option Addr} {sl_s16 : Array (Option Value)} {oc_s16 kV_s16 dc_s16 pm_s16 cd_s16 ct_s16 : Value} (a_s16 : PySem.W.nsIn K mainGlobals "_law_seats" = some (some (.ref p_s16)))
    (l_s16 : K.lookup p_s16 = some ⟨oc_s16, od_s16, .func (PySem.W.fnOf "_law_seats" "_law_seats" (defArgs st_seats) (defBody st_seats) (defScope st_seats) .none kV_s16 dc_s16 pm_s16 an_s16 cd_s16 ct_s16), sl_s16⟩) (c_s16 : PySem.W.codeIn K cd_s16 "_law_seats" = true) (k_s16 : PySem.W.keepIn K (.ref p_s16) = true)
    {od_s17 an_s17 : Option Addr} {sl_s17 : Array (Option Value)} {oc_s17 kV_s17 dc_s17 pm_s17 cd_s17 ct_s17 : Value} (a_s17 : PySem.W.nsIn K mainGlobals "_law_twos" = some (some (.ref p_s17)))
    (l_s17 : K.lookup p_s17 = some ⟨oc_s17, od_s17, .func (PySem.W.fnOf "_law_twos" "_law_twos" (defArgs st_twos) (defBody st_twos) (defScope st_twos) .none kV_s17 dc_s17 pm_s17 an_s17 cd_s17 ct_s17), sl_s17⟩) (c_s17 : PySem.W.codeIn K cd_s17 "_law_twos" = true) (k_s17 : PySem.W.keepIn K (.ref p_s17) = true)
    {od_s18 an_s18 : Option Addr} {sl_s18 : Array (Option Value)} {oc_s18 kV_s18 dc_s18 pm_s18 cd_s18 ct_s18 : Value} (a_s18 : PySem.W.nsIn K mainGlobals "_law_row" = some (some (.ref p_s18)))
    (l_s18 : K.lookup p_s18 = some ⟨oc_s18, od_s18, .func (PySem.W.fnOf "_law_row" "_law_row" (defArgs st_row) (defBody st_row) (defScope st_row) .none kV_s18 dc_s18 pm_s18 an_s18 cd_s18 ct_s18), sl_s18⟩) (c_s18 : PySem.W.codeIn K cd_s18 "_law_row" = true) (k_s18 : PySem.W.keepIn K (.ref p_s18) = true)
    {od_s19 an_s19 : Option Addr} {sl_s19 : Array (Option Value)} {oc_s19 kV_s19 dc_s19 pm_s19 cd_s19 ct_s19 : Value} (a_s19 : PySem.W.nsIn K mainGlobals "_law_lot" = some (some (.ref p_s19)))
    (l_s19 : K.lookup p_s19 = some ⟨oc_s19, od_s19, .func (PySem.W.fnOf "_law_lot" "_law_lot" (defArgs st_lot) (defBody st_lot) (defScope st_lot) .none kV_s19 dc_s19 pm_s19 an_s19 cd_s19 ct_s19), sl_s19⟩) (c_s19 : PySem.W.codeIn K cd_s19 "_law_lot" = true) (k_s19 : PySem.W.keepIn K (.ref p_s19) = true)
    {od_s20 an_s20 : Option Addr} {sl_s20 : Array (Option Value)} {oc_s20 kV_s20 dc_s20 pm_s20 cd_s20 ct_s20 : Value} (a_s20 : PySem.W.nsIn K mainGlobals "_law_news" = some (some (.ref p_s20)))
    (l_s20 : K.lookup p_s20 = some ⟨oc_s20, od_s20, .func (PySem.W.fnOf "_law_news" "_law_news" (defArgs st_news) (defBody st_news) (defScope st_news) .none kV_s20 dc_s20 pm_s20 an_s20 cd_s20 ct_s20), sl_s20⟩) (c_s20 : PySem.W.codeIn K cd_s20 "_law_news" = true) (k_s20 : PySem.W.keepIn K (.ref p_s20) = true)
    {od_s21 an_s21 : Option Addr} {sl_s21 : Array (Option Value)} {oc_s21 kV_s21 dc_s21 pm_s21 cd_s21 ct_s21 : Value} (a_s21 : PySem.W.nsIn K mainGlobals "_law_number" = some (some (.ref p_s21)))
    (l_s21 : K.lookup p_s21 = some ⟨oc_s21, od_s21, .func (PySem.W.fnOf "_law_number" "_law_number" (defArgs st_number) (defBody st_number) (defScope st_number) .none kV_s21 dc_s21 pm_s21 an_s21 cd_s21 ct_s21), sl_s21⟩) (c_s21 : PySem.W.codeIn K cd_s21 "_law_number" = true) (k_s21 : PySem.W.keepIn K (.ref p_s21) = true)
    {od_s22 an_s22 : Option Addr} {sl_s22 : Array (Option Value)} {oc_s22 kV_s22 dc_s22 pm_s22 cd_s22 ct_s22 : Value} (a_s22 : PySem.W.nsIn K mainGlobals "_law_word" = some (some (.ref p_s22)))
    (l_s22 : K.lookup p_s22 = some ⟨oc_s22, od_s22, .func (PySem.W.fnOf "_law_word" "_law_word" (defArgs st_word) (defBody st_word) (defScope st_word) .none kV_s22 dc_s22 pm_s22 an_s22 cd_s22 ct_s22), sl_s22⟩) (c_s22 : PySem.W.codeIn K cd_s22 "_law_word" = true) (k_s22 : PySem.W.keepIn K (.ref p_s22) = true)
    {od_s23 an_s23 : Option Addr} {sl_s23 : Array (Option Value)} {oc_s23 kV_s23 dc_s23 pm_s23 cd_s23 ct_s23 : Value} (a_s23 : PySem.W.nsIn K mainGlobals "_law_hand" = some (some (.ref p_s23)))
    (l_s23 : K.lookup p_s23 = some ⟨oc_s23, od_s23, .func (PySem.W.fnOf "_law_hand" "_law_hand" (defArgs st_hand) (defBody st_hand) (defScope st_hand) .none kV_s23 dc_s23 pm_s23 an_s23 cd_s23 ct_s23), sl_s23⟩) (c_s23 : PySem.W.codeIn K cd_s23 "_law_hand" = true) (k_s23 : PySem.W.keepIn K (.ref p_s23) = true)
    {od_s24 an_s24 : Option Addr} {sl_s24 : Array (Option Value)} {oc_s24 kV_s24 dc_s24 pm_s24 cd_s24 ct_s24 : Value} (a_s24 : PySem.W.nsIn K mainGlobals "_law_pair" = some (some (.ref p_s24)))
    (l_s24 : K.lookup p_s24 = some ⟨oc_s24, od_s24, .func (PySem.W.fnOf "_law_pair" "_law_pair" (defArgs st_pair) (defBody st_pair) (defScope st_pair) .none kV_s24 dc_s24 pm_s24 an_s24 cd_s24 ct_s24), sl_s24⟩) (c_s24 : PySem.W.codeIn K cd_s24 "_law_pair" = true) (k_s24 : PySem.W.keepIn K (.ref p_s24) = true)
    {od_s25 an_s25 : Option Addr} {sl_s25 : Array (Option Value)} {oc_s25 kV_s25 dc_s25 pm_s25 cd_s25 ct_s25 : Value} (a_s25 : PySem.W.nsIn K mainGlobals "_law_is_row" = some (some (.ref p_s25)))
    (l_s25 : K.lookup p_s25 = some ⟨oc_s25, od_s25, .func (PySem.W.fnOf "_law_is_row" "_law_is_row" (defArgs st_own_is_row) (defBody st_own_is_row) (defScope st_own_is_row) .none kV_s25 dc_s25 pm_s25 an_s25 cd_s25 ct_s25), sl_s25⟩) (c_s25 : PySem.W.codeIn K cd_s25 "_law_is_row" = true) (k_s25 : PySem.W.keepIn K (.ref p_s25) = true)
    {od_s26 an_s26 : Option Addr} {sl_s26 : Array (Option Value)} {oc_s26 kV_s26 dc_s26 pm_s26 cd_s26 ct_s26 : Value} (a_s26 : PySem.W.nsIn K mainGlobals "_law_rise" = some (some (.ref p_s26)))
    (l_s26 : K.lookup p_s26 = some ⟨oc_s26, od_s26, .func (PySem.W.fnOf "_law_rise" "_law_rise" (defArgs st_rise) (defBody st_rise) (defScope st_rise) .none kV_s26 dc_s26 pm_s26 an_s26 cd_s26 ct_s26), sl_s26⟩) (c_s26 : PySem.W.codeIn K cd_s26 "_law_rise" = true) (k_s26 : PySem.W.keepIn K (.ref p_s26) = true)
    {od_s27 an_s27 : Option Addr} {sl_s27 : Array (Option Value)} {oc_s27 kV_s27 dc_s27 pm_s27 cd_s27 ct_s27 : Value} (a_s27 : PySem.W.nsIn K mainGlobals "_law_is_lot" = some (some (.ref p_s27)))
    (l_s27 : K.lookup p_s27 = some ⟨oc_s27, od_s27, .func (PySem.W.fnOf "_law_is_lot" "_law_is_lot" (defArgs st_is_lot) (defBody st_is_lot) (defScope st_is_lot) .none kV_s27 dc_s27 pm_s27 an_s27 cd_s27 ct_s27), sl_s27⟩) (c_s27 : PySem.W.codeIn K cd_s27 "_law_is_lot" = true) (k_s27 : PySem.W.keepIn K (.ref p_s27) = true)
    {od_s28 an_s28 : Option Addr} {sl_s28 : Array (Option Value)} {oc_s28 kV_s28 dc_s28 pm_s28 cd_s28 ct_s28 : Value} (a_s28 : PySem.W.nsIn K mainGlobals "_law_is_triple" = some (some (.ref p_s28)))
    (l_s28 : K.lookup p_s28 = some ⟨oc_s28, od_s28, .func (PySem.W.fnOf "_law_is_triple" "_law_is_triple" (defArgs st_is_triple) (defBody st_is_triple) (defScope st_is_triple) .none kV_s28 dc_s28 pm_s28 an_s28 cd_s28 ct_s28), sl_s28⟩) (c_s28 : PySem.W.codeIn K cd_s28 "_law_is_triple" = true) (k_s28 : PySem.W.keepIn K (.ref p_s28) = true)
    {od_s29 an_s29 : Option Addr} {sl_s29 : Array (Option Value)} {oc_s29 kV_s29 dc_s29 pm_s29 cd_s29 ct_s29 : Value} (a_s29 : PySem.W.nsIn K mainGlobals "_law_is_news" = some (some (.ref p_s29)))
    (l_s29 : K.lookup p_s29 = some ⟨oc_s29, od_s29, .func (PySem.W.fnOf "_law_is_news" "_law_is_news" (defArgs st_is_news) (defBody st_is_news) (defScope st_is_news) .none kV_s29 dc_s29 pm_s29 an_s29 cd_s29 ct_s29), sl_s29⟩) (c_s29 : PySem.W.codeIn K cd_s29 "_law_is_news" = true) (k_s29 : PySem.W.keepIn K (.ref p_s29) = true)
    {od_s30 an_s30 : Option Addr} {sl_s30 : Array (Option Value)} {oc_s30 kV_s30 dc_s30 pm_s30 cd_s30 ct_s30 : Value} (a_s30 : PySem.W.nsIn K mainGlobals "_law_things" = some (some (.ref p_s30)))
    (l_s30 : K.lookup p_s30 = some ⟨oc_s30, od_s30, .func (PySem.W.fnOf "_law_things" "_law_things" (defArgs st_things) (defBody st_things) (defScope st_things) .none kV_s30 dc_s30 pm_s30 an_s30 cd_s30 ct_s30), sl_s30⟩) (c_s30 : PySem.W.codeIn K cd_s30 "_law_things" = true) (k_s30 : PySem.W.keepIn K (.ref p_s30) = true)
    {od_s31 an_s31 : Option Addr} {sl_s31 : Array (Option Value)} {oc_s31 kV_s31 dc_s31 pm_s31 cd_s31 ct_s31 : Value} (a_s31 : PySem.W.nsIn K mainGlobals "_law_great" = some (some (.ref p_s31)))
    (l_s31 : K.lookup p_s31 = some ⟨oc_s31, od_s31, .func (PySem.W.fnOf "_law_great" "_law_great" (defArgs st_great) (defBody st_great) (defScope st_great) .none kV_s31 dc_s31 pm_s31 an_s31 cd_s31 ct_s31), sl_s31⟩) (c_s31 : PySem.W.codeIn K cd_s31 "_law_great" = true) (k_s31 : PySem.W.keepIn K (.ref p_s31) = true)
    {od_s32 an_s32 : Option Addr} {sl_s32 : Array (Option Value)} {oc_s32 kV_s32 dc_s32 pm_s32 cd_s32 ct_s32 : Value} (a_s32 : PySem.W.nsIn K mainGlobals "law" = some (some (.ref p_s32)))
    (l_s32 : K.lookup p_s32 = some ⟨oc_s32, od_s32, .func (PySem.W.fnOf "law" "law" (defArgs st_law) (defBody st_law) (defScope st_law) .none kV_s32 dc_s32 pm_s32 an_s32 cd_s32 ct_s32), sl_s32⟩) (c_s32 : PySem.W.codeIn K cd_s32 "law" = true) (k_s32 : PySem.W.keepIn K (.ref p_s32) = true)
    (z_all : PySem.W.nsIn K mainGlobals "all" = some none)
    (z_bool : PySem.W.nsIn K mainGlobals "bool" = some none)
    (z_enumerate : PySem.W.nsIn K mainGlobals "enumerate" = some none)
    (z_int : PySem.W.nsIn K mainGlobals "int" = some none)
    (z_isinstance : PySem.W.nsIn K mainGlobals "isinstance" = some none)
    (z_len : PySem.W.nsIn K mainGlobals "len" = some none)
    (z_list : PySem.W.nsIn K mainGlobals "list" = some none)
    (z_max : PySem.W.nsIn K mainGlobals "max" = some none)
    (z_min : PySem.W.nsIn K mainGlobals "min" = some none)
    (z_range : PySem.W.nsIn K mainGlobals "range" = some none)
    (z_repr : PySem.W.nsIn K mainGlobals "repr" = some none)
    (z_sorted : PySem.W.nsIn K mainGlobals "sorted" = some none)
    (z_str : PySem.W.nsIn K mainGlobals "str" = some none)
    (z_tuple : PySem.W.nsIn K mainGlobals "tuple" = some none)
    (z_type : PySem.W.nsIn K mainGlobals "type" = some none)
    (z_zip : PySem.W.nsIn K mainGlobals "zip" = some none)
    : ∃ fd : FuncData, (∀ (s : Shared) (u : Value), BindsTo s fd ⟨[u], []⟩ [("script", u)]) ∧ ∀ base : Heap, FnG l.prog w K mg base (L2.CX l.prog w) 11 fa fd ["script"] (spI K XR 1 (fnM 10 [false] Lw.m_law_k01)) := by
  cases hfa.symm.trans (PySem.W.mg_of X G a_s32)
  have G_s0 := fun_mk (st := st_is_count) l_s0 c_s0 k_s0
  have B_s0 := G_s0.binds (ps := ["thing"]) fun _ _ _ _ _ _ us hl => match us, hl with | [_], _ => rfl
  have G_s1 := fun_mk (st := st_is_tuple_of) l_s1 c_s1 k_s1
  have B_s1 := G_s1.binds (ps := ["thing", "many"]) fun _ _ _ _ _ _ us hl => match us, hl with | [_, _], _ => rfl
  have G_s2 := fun_mk (st := st_rises) l_s2 c_s2 k_s2
  have B_s2 := G_s2.binds (ps := ["keys"]) fun _ _ _ _ _ _ us hl => match us, hl with | [_], _ => rfl
  have G_s3 := fun_mk (st := st_is_word) l_s3 c_s3 k_s3
  have B_s3 := G_s3.binds (ps := ["thing"]) fun _ _ _ _ _ _ us hl => match us, hl with | [_], _ => rfl
  have G_s4 := fun_mk (st := st_is_hand) l_s4 c_s4 k_s4
  have B_s4 := G_s4.binds (ps := ["thing"]) fun _ _ _ _ _ _ us hl => match us, hl with | [_], _ => rfl
  have G_s5 := fun_mk (st := st_is_pair) l_s5 c_s5 k_s5
  have B_s5 := G_s5.binds (ps := ["thing"]) fun _ _ _ _ _ _ us hl => match us, hl with | [_], _ => rfl
  have G_s6 := fun_mk (st := st_is_stamp) l_s6 c_s6 k_s6
  have B_s6 := G_s6.binds (ps := ["thing"]) fun _ _ _ _ _ _ us hl => match us, hl with | [_], _ => rfl
  have G_s7 := fun_mk (st := st_is_row) l_s7 c_s7 k_s7
  have B_s7 := G_s7.binds (ps := ["thing"]) fun _ _ _ _ _ _ us hl => match us, hl with | [_], _ => rfl
  have G_s8 := fun_mk (st := st_is_rights) l_s8 c_s8 k_s8
  have B_s8 := G_s8.binds (ps := ["thing"]) fun _ _ _ _ _ _ us hl => match us, hl with | [_], _ => rfl
  have G_s9 := fun_mk (st := st_is_told_rise) l_s9 c_s9 k_s9
  have B_s9 := G_s9.binds (ps := ["thing"]) fun _ _ _ _ _ _ us hl => match us, hl with | [_], _ => rfl
  have G_s10 := fun_mk (st := st_is_heard) l_s10 c_s10 k_s10
  have B_s10 := G_s10.binds (ps := ["thing"]) fun _ _ _ _ _ _ us hl => match us, hl with | [_], _ => rfl
  have G_s11 := fun_mk (st := st_tap) l_s11 c_s11 k_s11
  have B_s11 := G_s11.binds (ps := ["script"]) fun _ _ _ _ _ _ us hl => match us, hl with | [_], _ => rfl
  have G_s12 := fun_mk (st := st_take) l_s12 c_s12 k_s12
  have B_s12 := G_s12.binds (ps := ["tap", "many"]) fun _ _ _ _ _ _ us hl => match us, hl with | [_, _], _ => rfl
  have G_s13 := fun_mk (st := st_odd) l_s13 c_s13 k_s13
  have B_s13 := G_s13.binds (ps := ["tap"]) fun _ _ _ _ _ _ us hl => match us, hl with | [_], _ => rfl
  have G_s14 := fun_mk (st := st_bend) l_s14 c_s14 k_s14
  have B_s14 := G_s14.binds (ps := ["tap", "thing", "deep"]) fun _ _ _ _ _ _ us hl => match us, hl with | [_, _, _], _ => rfl
  have G_s15 := fun_mk (st := st_towns) l_s15 c_s15 k_s15
  have B_s15 := G_s15.binds (ps := ["tap", "least"]) fun _ _ _ _ _ _ us hl => match us, hl with | [_, _], _ => rfl
  have G_s16 := fun_mk (st := st_seats) l_s16 c_s16 k_s16
  have B_s16 := G_s16.binds (ps := ["tap", "towns", "many"]) fun _ _ _ _ _ _ us hl => match us, hl with | [_, _, _], _ => rfl
  have G_s17 := fun_mk (st := st_twos) l_s17 c_s17 k_s17
  have B_s17 := G_s17.binds (ps := ["people"]) fun _ _ _ _ _ _ us hl => match us, hl with | [_], _ => rfl
  have G_s18 := fun_mk (st := st_row) l_s18 c_s18 k_s18
  have B_s18 := G_s18.binds (ps := ["tap", "pair", "towns"]) fun _ _ _ _ _ _ us hl => match us, hl with | [_, _, _], _ => rfl
  have G_s19 := fun_mk (st := st_lot) l_s19 c_s19 k_s19
  have B_s19 := G_s19.binds (ps := ["tap", "pairs", "towns"]) fun _ _ _ _ _ _ us hl => match us, hl with | [_, _, _], _ => rfl
  have G_s20 := fun_mk (st := st_news) l_s20 c_s20 k_s20
  have B_s20 := G_s20.binds (ps := ["tap", "towns"]) fun _ _ _ _ _ _ us hl => match us, hl with | [_, _], _ => rfl
  have G_s21 := fun_mk (st := st_number) l_s21 c_s21 k_s21
  have B_s21 := G_s21.binds (ps := ["thing"]) fun _ _ _ _ _ _ us hl => match us, hl with | [_], _ => rfl
  have G_s22 := fun_mk (st := st_word) l_s22 c_s22 k_s22
  have B_s22 := G_s22.binds (ps := ["thing"]) fun _ _ _ _ _ _ us hl => match us, hl with | [_], _ => rfl
  have G_s23 := fun_mk (st := st_hand) l_s23 c_s23 k_s23
  have B_s23 := G_s23.binds (ps := ["thing"]) fun _ _ _ _ _ _ us hl => match us, hl with | [_], _ => rfl
  have G_s24 := fun_mk (st := st_pair) l_s24 c_s24 k_s24
  have B_s24 := G_s24.binds (ps := ["thing"]) fun _ _ _ _ _ _ us hl => match us, hl with | [_], _ => rfl
  have G_s25 := fun_mk (st := st_own_is_row) l_s25 c_s25 k_s25
  have B_s25 := G_s25.binds (ps := ["thing"]) fun _ _ _ _ _ _ us hl => match us, hl with | [_], _ => rfl
  have G_s26 := fun_mk (st := st_rise) l_s26 c_s26 k_s26
  have B_s26 := G_s26.binds (ps := ["some"]) fun _ _ _ _ _ _ us hl => match us, hl with | [_], _ => rfl
  have G_s27 := fun_mk (st := st_is_lot) l_s27 c_s27 k_s27
  have B_s27 := G_s27.binds (ps := ["thing"]) fun _ _ _ _ _ _ us hl => match us, hl with | [_], _ => rfl
  have G_s28 := fun_mk (st := st_is_triple) l_s28 c_s28 k_s28
  have B_s28 := G_s28.binds (ps := ["thing"]) fun _ _ _ _ _ _ us hl => match us, hl with | [_], _ => rfl
  have G_s29 := fun_mk (st := st_is_news) l_s29 c_s29 k_s29
  have B_s29 := G_s29.binds (ps := ["thing"]) fun _ _ _ _ _ _ us hl => match us, hl with | [_], _ => rfl
  have G_s30 := fun_mk (st := st_things) l_s30 c_s30 k_s30
  have B_s30 := G_s30.binds (ps := ["tap", "towns", "pairs"]) fun _ _ _ _ _ _ us hl => match us, hl with | [_, _, _], _ => rfl
  have G_s31 := fun_mk (st := st_great) l_s31 c_s31 k_s31
  have B_s31 := G_s31.binds (ps := []) fun _ _ _ _ _ _ us hl => match us, hl with | [], _ => rfl
  have G_s32 := fun_mk (st := st_law) l_s32 c_s32 k_s32
  have P_p_great_0_ : BindsP K (PySem.W.fnOf "_law_great" "_law_great" (defArgs st_great) (defBody st_great) (defScope st_great) .none kV_s31 dc_s31 pm_s31 an_s31 cd_s31 ct_s31) [] [] 0 0 [] := fun s us ws _ h1 h2 => match us, ws, h1, h2 with | [], [], _, _ => .of_eq rfl
  have Q_p_great_0_ : pkOk K (0 + 0) [] := by simp [pkOk]
  have Z : Zs K mg p_s0 _ p_s1 _ p_s2 _ p_s3 _ p_s4 _ p_s5 _ p_s6 _ p_s7 _ p_s8 _ p_s9 _ p_s10 _ p_s11 _ p_s12 _ p_s13 _ p_s14 _ p_s15 _ p_s16 _ p_s17 _ p_s18 _ p_s19 _ p_s20 _ p_s21 _ p_s22 _ p_s23 _ p_s24 _ p_s25 _ p_s26 _ p_s27 _ p_s28 _ p_s29 _ p_s30 _ p_s31 _ := ⟨PySem.W.mg_none_of X G z_all, PySem.W.mg_none_of X G z_bool, PySem.W.mg_none_of X G z_enumerate, PySem.W.mg_none_of X G z_int, PySem.W.mg_none_of X G z_isinstance, PySem.W.mg_none_of X G z_len, PySem.W.mg_none_of X G z_list, PySem.W.mg_none_of X G z_max, PySem.W.mg_none_of X G z_min, PySem.W.mg_none_of X G z_range, PySem.W.mg_none_of X G z_repr, PySem.W.mg_none_of X G z_sorted, PySem.W.mg_none_of X G z_str, PySem.W.mg_none_of X G z_tuple, PySem.W.mg_none_of X G z_type, PySem.W.mg_none_of X G z_zip, PySem.W.mg_of X G a_s0, k_s0, B_s0, PySem.W.mg_of X G a_s1, k_s1, B_s1, PySem.W.mg_of X G a_s2, k_s2, B_s2, PySem.W.mg_of X G a_s3, k_s3, B_s3, PySem.W.mg_of X G a_s4, k_s4, B_s4, PySem.W.mg_of X G a_s5, k_s5, B_s5, PySem.W.mg_of X G a_s6, k_s6, B_s6, PySem.W.mg_of X G a_s7, k_s7, B_s7, PySem.W.mg_of X G a_s8, k_s8, B_s8, PySem.W.mg_of X G a_s9, k_s9, B_s9, PySem.W.mg_of X G a_s10, k_s10, B_s10, PySem.W.mg_of X G a_s11, k_s11, B_s11, PySem.W.mg_of X G a_s12, k_s12, B_s12, PySem.W.mg_of X G a_s13, k_s13, B_s13, PySem.W.mg_of X G a_s14, k_s14, B_s14, PySem.W.mg_of X G a_s15, k_s15, B_s15, PySem.W.mg_of X G a_s16, k_s16, B_s16, PySem.W.mg_of X G a_s17, k_s17, B_s17, PySem.W.mg_of X G a_s18, k_s18, B_s18, PySem.W.mg_of X G a_s19, k_s19, B_s19, PySem.W.mg_of X G a_s20, k_s20, B_s20, PySem.W.mg_of X G a_s21, k_s21, B_s21, PySem.W.mg_of X G a_s22, k_s22, B_s22, PySem.W.mg_of X G a_s23, k_s23, B_s23, PySem.W.mg_of X G a_s24, k_s24, B_s24, PySem.W.mg_of X G a_s25, k_s25, B_s25, PySem.W.mg_of X G a_s26, k_s26, B_s26, PySem.W.mg_of X G a_s27, k_s27, B_s27, PySem.W.mg_of X G a_s28, k_s28, B_s28, PySem.W.mg_of X G a_s29, k_s29, B_s29, PySem.W.mg_of X G a_s30, k_s30, B_s30, PySem.W.mg_of X G a_s31, k_s31, B_s31, P_p_great_0_, Q_p_great_0_⟩
  refine ⟨PySem.W.fnOf "law" "law" (defArgs st_law) (defBody st_law) (defScope st_law) .none kV_s32 dc_s32 pm_s32 an_s32 cd_s32 ct_s32, fun s u => .of_eq rfl, fun base => ?_⟩
  have K_s0 := ok_is_count (P := l.prog) (w := w) (base := base) (XR := XR) Z G_s0 
  have K_s1 := ok_is_tuple_of (P := l.prog) (w := w) (base := base) (XR := XR) Z G_s1 
  have K_s2 := ok_rises (P := l.prog) (w := w) (base := base) (XR := XR) Z G_s2 
  have K_s3 := ok_is_word (P := l.prog) (w := w) (base := base) (XR := XR) Z G_s3 
  have K_s4 := ok_is_hand (P := l.prog) (w := w) (base := base) (XR := XR) Z G_s4 K_s1 K_s3
  have K_s5 := ok_is_pair (P := l.prog) (w := w) (base := base) (XR := XR) Z G_s5 K_s1 K_s4
  have K_s6 := ok_is_stamp (P := l.prog) (w := w) (base := base) (XR := XR) Z G_s6 K_s1 K_s0
  have K_s7 := ok_is_row (P := l.prog) (w := w) (base := base) (XR := XR) Z G_s7 K_s1 K_s5 K_s6 K_s3 K_s0
  have K_s8 := ok_is_rights (P := l.prog) (w := w) (base := base) (XR := XR) Z G_s8 K_s1 K_s0 K_s7 K_s2
  have K_s9 := ok_is_told_rise (P := l.prog) (w := w) (base := base) (XR := XR) Z G_s9 K_s1 K_s3 K_s0
  have K_s10 := ok_is_heard (P := l.prog) (w := w) (base := base) (XR := XR) Z G_s10 K_s9 K_s2
  have K_s11 := ok_tap (P := l.prog) (w := w) (base := base) (XR := XR) Z G_s11 
  have K_s12 := ok_take (P := l.prog) (w := w) (base := base) (XR := XR) Z G_s12 
  have K_s13 := ok_odd (P := l.prog) (w := w) (base := base) (XR := XR) Z G_s13 K_s12
  have K_s14 := ok_bend (P := l.prog) (w := w) (base := base) (XR := XR) Z G_s14 K_s12 K_s13 7
  have K_s15 := ok_towns (P := l.prog) (w := w) (base := base) (XR := XR) Z G_s15 K_s12
  have K_s16 := ok_seats (P := l.prog) (w := w) (base := base) (XR := XR) Z G_s16 K_s12
  have K_s17 := ok_twos (P := l.prog) (w := w) (base := base) (XR := XR) Z G_s17 
  have K_s18 := ok_row (P := l.prog) (w := w) (base := base) (XR := XR) Z G_s18 K_s12
  have K_s19 := ok_lot (P := l.prog) (w := w) (base := base) (XR := XR) Z G_s19 K_s12 K_s18
  have K_s20 := ok_news (P := l.prog) (w := w) (base := base) (XR := XR) Z G_s20 K_s12
  have K_s21 := ok_number (P := l.prog) (w := w) (base := base) (XR := XR) Z G_s21 
  have K_s22 := ok_word (P := l.prog) (w := w) (base := base) (XR := XR) Z G_s22 
  have K_s23 := ok_hand (P := l.prog) (w := w) (base := base) (XR := XR) Z G_s23 K_s22
  have K_s24 := ok_pair (P := l.prog) (w := w) (base := base) (XR := XR) Z G_s24 K_s23
  have K_s25 := ok_own_is_row (P := l.prog) (w := w) (base := base) (XR := XR) Z G_s25 K_s24 K_s21 K_s22
  have K_s26 := ok_rise (P := l.prog) (w := w) (base := base) (XR := XR) Z G_s26 
  have K_s27 := ok_is_lot (P := l.prog) (w := w) (base := base) (XR := XR) Z G_s27 K_s21 K_s25 K_s26
  have K_s28 := ok_is_triple (P := l.prog) (w := w) (base := base) (XR := XR) Z G_s28 K_s22 K_s21
  have K_s29 := ok_is_news (P := l.prog) (w := w) (base := base) (XR := XR) Z G_s29 K_s28 K_s26
  have K_s30 := ok_things (P := l.prog) (w := w) (base := base) (XR := XR) Z G_s30 K_s20 K_s19 K_s18
  have K_s31 := ok_great (P := l.prog) (w := w) (base := base) (XR := XR) Z G_s31 
  exact ok_law Z G_s32 K_s11 K_s15 K_s17 K_s16 K_s30 K_s31 K_s14 K_s12 K_s13 K_s27 K_s25 K_s24 K_s23 K_s22 K_s8 K_s7 K_s5 K_s4 K_s3 K_s10 K_s29
end Dv
namespace Lw
open PySem L2 PySem.W PySem.SeqAt Eg
-- is_fraction of k61
def m_is_fraction : M Out := sSeq (sIf (mOr (mNot (((mCall fn_is_tuple_of (mCons ((mName 0).bind fun d => M.ret (.dat d)) (mCons ((M.ret (.int 2)).bind fun d => M.ret (.dat d)) (mNil)))).bind fz).bind truD)) (mOr (mNot (((mCall fn_is_count (mCons ((m2 gIx (mSlot 0) ((M.ret (.int 0)).bind fun d => M.ret (.dat d))).bind fun d => M.ret (.dat d)) (mNil))).bind fz).bind truD)) (mNot (((mCall fn_is_count (mCons ((m2 gIx (mSlot 0) ((M.ret (.int 1)).bind fun d => M.ret (.dat d))).bind fun d => M.ret (.dat d)) (mNil))).bind fz).bind truD)))) (sRet ((M.ret (.bool false)).bind fun d => M.ret (.sh d))) (sNext)) (sRet ((mAndV (m2 gGt ((m2 gIx (mSlot 0) ((M.ret (.int 1)).bind fun d => M.ret (.dat d))).bind fun d => M.ret (.dat d)) ((M.ret (.int 0)).bind fun d => M.ret (.dat d))) (m2 gEq (((mL gGcd (mCons ((m2 gIx (mSlot 0) ((M.ret (.int 0)).bind fun d => M.ret (.dat d))).bind fun d => M.ret (.dat d)) (mCons ((m2 gIx (mSlot 0) ((M.ret (.int 1)).bind fun d => M.ret (.dat d))).bind fun d => M.ret (.dat d)) (mNil)))).bind fz).bind fun d => M.ret (.dat d)) ((M.ret (.int 1)).bind fun d => M.ret (.dat d)))).bind fun d => M.ret (.sh d)))
def fn_is_fraction : Fn := fnM 0 [false] m_is_fraction
-- in_lowest_terms of k61
def m_in_lowest_terms : M Out := sSeq (sSet 2 (mL gGcd (mCons (mSlot 0) (mCons (mSlot 1) (mNil))))) (sRet ((mFix tupG (mCons ((m2 gFloorW (mSlot 0) (mSlot 2)).bind fun d => M.ret (.dat d)) (mCons ((m2 gFloorW (mSlot 1) (mSlot 2)).bind fun d => M.ret (.dat d)) (mNil)))).bind fun d => M.ret (.sh d)))
def fn_in_lowest_terms : Fn := fnM 1 [false, false] m_in_lowest_terms
-- fraction_sum of k61
def m_fraction_sum_b1 : M Out := sSet 1 (mCall fn_in_lowest_terms (mCons (((m2 aAdd (((m2 aMulT ((m2 gIx (mSlot 1) ((M.ret (.int 0)).bind fun d => M.ret (.dat d))).bind fun d => M.ret (.dat d)) (mSlot 3)).bind fz).bind fun d => M.ret (.dat d)) (((m2 aMulT (mSlot 2) ((m2 gIx (mSlot 1) ((M.ret (.int 1)).bind fun d => M.ret (.dat d))).bind fun d => M.ret (.dat d))).bind fz).bind fun d => M.ret (.dat d))).bind fz).bind fun d => M.ret (.dat d)) (mCons (((m2 aMulT ((m2 gIx (mSlot 1) ((M.ret (.int 1)).bind fun d => M.ret (.dat d))).bind fun d => M.ret (.dat d)) (mSlot 3)).bind fz).bind fun d => M.ret (.dat d)) (mNil))))
def m_fraction_sum : M Out := sSeq (sSet 1 ((mFix tupG (mCons ((M.ret (.int 0)).bind fun d => M.ret (.dat d)) (mCons ((M.ret (.int 1)).bind fun d => M.ret (.dat d)) (mNil)))).bind fun d => M.ret (.sh d))) (sSeq (sFor ((mName 0).bind seqItems) (tTup [tName 2, tName 3]) (m_fraction_sum_b1)) (sRet (mTake 1)))
def fn_fraction_sum : Fn := fnM 3 [false] m_fraction_sum
-- is_less of k61
def m_is_less : M Out := sRet ((m2 gLt (((m2 aMulT ((m2 gIx (mSlot 0) ((M.ret (.int 0)).bind fun d => M.ret (.dat d))).bind fun d => M.ret (.dat d)) ((m2 gIx (mSlot 1) ((M.ret (.int 1)).bind fun d => M.ret (.dat d))).bind fun d => M.ret (.dat d))).bind fz).bind fun d => M.ret (.dat d)) (((m2 aMulT ((m2 gIx (mSlot 1) ((M.ret (.int 0)).bind fun d => M.ret (.dat d))).bind fun d => M.ret (.dat d)) ((m2 gIx (mSlot 0) ((M.ret (.int 1)).bind fun d => M.ret (.dat d))).bind fun d => M.ret (.dat d))).bind fz).bind fun d => M.ret (.dat d))).bind fun d => M.ret (.sh d))
def fn_is_less : Fn := fnM 0 [false, false] m_is_less
-- _law_feed of k61
def m_feed : M Out := sRet (mFix lstG (mCons (((mScr 0 (M.ret none) ((M.ret (.int 63)).bind fun d => (asInt d).bind fun i => M.ret (some i))).bind fz).bind fun d => M.ret (.dat d)) (mCons ((M.ret (.int 0)).bind fun d => M.ret (.dat d)) (mCons ((M.ret (.int 0)).bind fun d => M.ret (.dat d)) (mCons ((M.ret (.int 0)).bind fun d => M.ret (.dat d)) (mNil))))))
def fn_feed : Fn := fnM 0 [false] m_feed
-- _law_draw of k61
def m_draw : M Out := sSeq (sPutL 0 ((m2 aAdd ((m2 gIx (mSlot 0) ((M.ret (.int 3)).bind fun d => M.ret (.dat d))).bind fun d => M.ret (.dat d)) ((M.ret (.int 1)).bind fun d => M.ret (.dat d))).bind fz) (M.ret (.int 3))) (sSeq (sIf ((m2 gGt ((m2 gIx (mSlot 0) ((M.ret (.int 2)).bind fun d => M.ret (.dat d))).bind fun d => M.ret (.dat d)) ((M.ret (.int 0)).bind fun d => M.ret (.dat d))).bind asBool) (sSeq (sSet 2 ((m2 gMod ((m2 gIx (mSlot 0) ((M.ret (.int 2)).bind fun d => M.ret (.dat d))).bind fun d => M.ret (.dat d)) (mSlot 1)).bind fun d => M.ret (.sh d))) (sSeq (sPutL 0 (m2 gFloorW ((m2 gIx (mSlot 0) ((M.ret (.int 2)).bind fun d => M.ret (.dat d))).bind fun d => M.ret (.dat d)) (mSlot 1)) (M.ret (.int 2))) (sRet (mTake 2)))) (sNext)) (sSeq (sSet 3 ((m2 gIx (mSlot 0) ((M.ret (.int 1)).bind fun d => M.ret (.dat d))).bind fun d => M.ret (.sh d))) (sSeq (sPutL 0 ((m2 aAdd (mSlot 3) ((M.ret (.int 1)).bind fun d => M.ret (.dat d))).bind fz) (M.ret (.int 1))) (sSeq (sSet 4 (mIf ((m2 gGt (((mL gLen (mCons ((m2 gIx (mSlot 0) ((M.ret (.int 0)).bind fun d => M.ret (.dat d))).bind fun d => M.ret (.dat d)) (mNil))).bind fz).bind fun d => M.ret (.dat d)) ((M.ret (.int 0)).bind fun d => M.ret (.dat d))).bind asBool) ((m2 gIx ((m2 gIx (mSlot 0) ((M.ret (.int 0)).bind fun d => M.ret (.dat d))).bind fun d => M.ret (.dat d)) ((m2 gMod (mSlot 3) (((mL gLen (mCons ((m2 gIx (mSlot 0) ((M.ret (.int 0)).bind fun d => M.ret (.dat d))).bind fun d => M.ret (.dat d)) (mNil))).bind fz).bind fun d => M.ret (.dat d))).bind fun d => M.ret (.dat d))).bind fun d => M.ret (.sh d)) ((M.ret (.int 8)).bind fun d => M.ret (.sh d)))) (sSeq (sIf (mAnd ((m2 gGe (mSlot 4) ((m2 gPow ((M.ret (.int 10)).bind fun d => M.ret (.dat d)) ((M.ret (.int 18)).bind fun d => M.ret (.dat d))).bind fun d => M.ret (.dat d))).bind asBool) ((m2 gLt (mSlot 3) (((mL gLen (mCons ((m2 gIx (mSlot 0) ((M.ret (.int 0)).bind fun d => M.ret (.dat d))).bind fun d => M.ret (.dat d)) (mNil))).bind fz).bind fun d => M.ret (.dat d))).bind asBool)) (sSeq (sPutL 0 (m2 gFloorW (mSlot 4) (mSlot 1)) (M.ret (.int 2))) (sRet ((m2 gMod (mSlot 4) (mSlot 1)).bind fun d => M.ret (.sh d)))) (sNext)) (sSeq (sSet 5 ((m2 gMod ((m2 gPow (((m2 aAdd (((m2 aAdd ((m2 gMod (mSlot 4) ((M.ret (.int 2147483629)).bind fun d => M.ret (.dat d))).bind fun d => M.ret (.dat d)) (((m2 aMulT ((M.ret (.int 130043)).bind fun d => M.ret (.dat d)) ((m2 gIx (mSlot 0) ((M.ret (.int 3)).bind fun d => M.ret (.dat d))).bind fun d => M.ret (.dat d))).bind fz).bind fun d => M.ret (.dat d))).bind fz).bind fun d => M.ret (.dat d)) ((M.ret (.int 83)).bind fun d => M.ret (.dat d))).bind fz).bind fun d => M.ret (.dat d)) ((M.ret (.int 5)).bind fun d => M.ret (.dat d))).bind fun d => M.ret (.dat d)) ((M.ret (.int 2147483647)).bind fun d => M.ret (.dat d))).bind fun d => M.ret (.sh d))) (sRet ((m2 gMod ((m2 gFloorW ((m2 gMod ((m2 gPow (((m2 aAdd (((m2 aMulT (mSlot 5) (((m2 aAdd ((m2 gIx (mSlot 0) ((M.ret (.int 3)).bind fun d => M.ret (.dat d))).bind fun d => M.ret (.dat d)) ((M.ret (.int 11)).bind fun d => M.ret (.dat d))).bind fz).bind fun d => M.ret (.dat d))).bind fz).bind fun d => M.ret (.dat d)) (((m2 aMulT ((M.ret (.int 64577)).bind fun d => M.ret (.dat d)) ((m2 gIx (mSlot 0) ((M.ret (.int 3)).bind fun d => M.ret (.dat d))).bind fun d => M.ret (.dat d))).bind fz).bind fun d => M.ret (.dat d))).bind fz).bind fun d => M.ret (.dat d)) ((M.ret (.int 5)).bind fun d => M.ret (.dat d))).bind fun d => M.ret (.dat d)) ((M.ret (.int 2147483587)).bind fun d => M.ret (.dat d))).bind fun d => M.ret (.dat d)) ((M.ret (.int 64)).bind fun d => M.ret (.dat d))).bind fun d => M.ret (.dat d)) (mSlot 1)).bind fun d => M.ret (.sh d)))))))))
def fn_draw : Fn := fnM 4 [true, false] m_draw
-- _law_is_number of k61
def m_is_number : M Out := sRet ((mAndV (m1 (gIsi "int") (mSlot 0)) (mNotV (m1 (gIsi "bool") (mSlot 0)))).bind fun d => M.ret (.sh d))
def fn_is_number : Fn := fnM 0 [false] m_is_number
-- _law_bent of k61
def m_bent (self : Fn) : M Out := sSeq (sIf (mAnd ((m1 (gIsi "tuple") (mSlot 1)).bind truD) (mAnd ((m2 gNe (mSlot 1) ((mFix tupG (mNil)).bind fun d => M.ret (.dat d))).bind asBool) ((m2 gGt (((mCallO fn_draw (mCons (mSlot 0) (mCons ((M.ret (.int 9)).bind fun d => M.ret (.dat d)) (mNil)))).bind fz).bind fun d => M.ret (.dat d)) ((M.ret (.int 0)).bind fun d => M.ret (.dat d))).bind asBool))) (sSeq (sPar 2 3 (mCallO fn_draw (mCons (mSlot 0) (mCons (((mL gLen (mCons (mSlot 1) (mNil))).bind fz).bind fun d => M.ret (.dat d)) (mNil)))) (mCallO fn_draw (mCons (mSlot 0) (mCons ((M.ret (.int 8)).bind fun d => M.ret (.dat d)) (mNil))))) (sSeq (sSet 4 (mFix lstG (mCons (((m2 aAdd (((mSl (mSlot 1) (M.ret none) ((mName 2).bind fun d => (asInt d).bind fun i => M.ret (some i))).bind fz).bind fun d => M.ret (.dat d)) (((mSl (mSlot 1) (((m2 aAdd (mSlot 2) ((M.ret (.int 1)).bind fun d => M.ret (.dat d))).bind fz).bind fun d => (asInt d).bind fun i => M.ret (some i)) (M.ret none)).bind fz).bind fun d => M.ret (.dat d))).bind fz).bind fun d => M.ret (.dat d)) (mCons (((m2 aAdd (((m2 aAdd (((mSl (mSlot 1) (M.ret none) ((mName 2).bind fun d => (asInt d).bind fun i => M.ret (some i))).bind fz).bind fun d => M.ret (.dat d)) (((mSl (mSlot 1) ((mName 2).bind fun d => (asInt d).bind fun i => M.ret (some i)) (((m2 aAdd (mSlot 2) ((M.ret (.int 1)).bind fun d => M.ret (.dat d))).bind fz).bind fun d => (asInt d).bind fun i => M.ret (some i))).bind fz).bind fun d => M.ret (.dat d))).bind fz).bind fun d => M.ret (.dat d)) (((mSl (mSlot 1) ((mName 2).bind fun d => (asInt d).bind fun i => M.ret (some i)) (M.ret none)).bind fz).bind fun d => M.ret (.dat d))).bind fz).bind fun d => M.ret (.dat d)) (mNil))))) (sSeq (sSet 4 (m2 aAdd (mSlot 4) (((mFix lstG (mCons (((m1 gRev2 (mSlot 1)).bind fz).bind fun d => M.ret (.dat d)) (mCons (((mL gList (mCons (mSlot 1) (mNil))).bind fz).bind fun d => M.ret (.dat d)) (mNil)))).bind fz).bind fun d => M.ret (.dat d)))) (sSeq (sIf ((m2 gLt (mSlot 3) ((M.ret (.int 4)).bind fun d => M.ret (.dat d))).bind asBool) (sRet ((m2 gIx (mSlot 4) (mSlot 3)).bind fun d => M.ret (.sh d))) (sNext)) (sRet (m2 aAdd (((m2 aAdd (((mSl (mSlot 1) (M.ret none) ((mName 2).bind fun d => (asInt d).bind fun i => M.ret (some i))).bind fz).bind fun d => M.ret (.dat d)) ((mFix tupG (mCons (((mCallO self (mCons (mSlot 0) (mCons ((m2 gIx (mSlot 1) (mSlot 2)).bind fun d => M.ret (.dat d)) (mNil)))).bind fz).bind fun d => M.ret (.dat d)) (mNil))).bind fun d => M.ret (.dat d))).bind fz).bind fun d => M.ret (.dat d)) (((mSl (mSlot 1) (((m2 aAdd (mSlot 2) ((M.ret (.int 1)).bind fun d => M.ret (.dat d))).bind fz).bind fun d => (asInt d).bind fun i => M.ret (some i)) (M.ret none)).bind fz).bind fun d => M.ret (.dat d)))))))) (sNext)) (sSeq (sIf (mAnd ((m1 (gIsi "int") (mSlot 1)).bind truD) (mAnd (mNot ((m1 (gIsi "bool") (mSlot 1)).bind truD)) ((m2 gGt (((mCallO fn_draw (mCons (mSlot 0) (mCons ((M.ret (.int 3)).bind fun d => M.ret (.dat d)) (mNil)))).bind fz).bind fun d => M.ret (.dat d)) ((M.ret (.int 0)).bind fun d => M.ret (.dat d))).bind asBool))) (sRet (m2 aAdd (mSlot 1) ((m2 gIx (((mFix lstG (mCons ((M.ret (.int 1)).bind fun d => M.ret (.dat d)) (mCons (((M.ret (.int 1)).bind negD).bind fun d => M.ret (.dat d)) (mCons ((M.ret (.int 2)).bind fun d => M.ret (.dat d)) (mNil))))).bind fz).bind fun d => M.ret (.dat d)) (((mCallO fn_draw (mCons (mSlot 0) (mCons ((M.ret (.int 3)).bind fun d => M.ret (.dat d)) (mNil)))).bind fz).bind fun d => M.ret (.dat d))).bind fun d => M.ret (.dat d)))) (sNext)) (sSeq (sSet 4 (mFix lstG (mCons ((M.ret .none).bind fun d => M.ret (.dat d)) (mCons ((M.ret (.str "")).bind fun d => M.ret (.dat d)) (mCons ((M.ret (.str "a")).bind fun d => M.ret (.dat d)) (mCons ((M.ret (.str "few")).bind fun d => M.ret (.dat d)) (mCons ((M.ret (.int 0)).bind fun d => M.ret (.dat d)) (mCons (((M.ret (.int 1)).bind negD).bind fun d => M.ret (.dat d)) (mCons ((M.ret (.bool true)).bind fun d => M.ret (.dat d)) (mCons ((m2 gPow ((M.ret (.int 10)).bind fun d => M.ret (.dat d)) ((M.ret (.int 40)).bind fun d => M.ret (.dat d))).bind fun d => M.ret (.dat d)) (mCons ((mFix tupG (mNil)).bind fun d => M.ret (.dat d)) (mCons (((mFix lstG (mNil)).bind fz).bind fun d => M.ret (.dat d)) (mCons ((M.ret (.str "Aa")).bind fun d => M.ret (.dat d)) (mCons ((mFix tupG (mCons ((M.ret (.str "a")).bind fun d => M.ret (.dat d)) (mCons ((M.ret (.str "b")).bind fun d => M.ret (.dat d)) (mNil)))).bind fun d => M.ret (.dat d)) (mCons ((M.ret (.int 3)).bind fun d => M.ret (.dat d)) (mCons ((M.ret (.str "ninelette")).bind fun d => M.ret (.dat d)) (mNil))))))))))))))))) (sRet ((m2 gIx (mSlot 4) (((mCallO fn_draw (mCons (mSlot 0) (mCons ((M.ret (.int 14)).bind fun d => M.ret (.dat d)) (mNil)))).bind fz).bind fun d => M.ret (.dat d))).bind fun d => M.ret (.sh d)))))
def fn_bent : Nat → Fn
  | 0 => fun _ => .bad
  | n + 1 => fnM 3 [true, false] (m_bent (fn_bent n))
-- _law_cut of k61
def m_cut_w1 : M Bool := (m2 gGt (mSlot 3) ((M.ret (.int 0)).bind fun d => M.ret (.dat d))).bind asBool
def m_cut_b2 : M Out := sPar 2 3 ((mName 3).bind fun d => M.ret (.sh d)) ((m2 gMod (mSlot 2) (mSlot 3)).bind fun d => M.ret (.sh d))
def m_cut : M Out := sSeq (sPar 2 3 ((mName 0).bind fun d => M.ret (.sh d)) ((mName 1).bind fun d => M.ret (.sh d))) (sSeq (sWhile (m_cut_w1) (m_cut_b2) 5000) (sRet ((mFix tupG (mCons ((m2 gFloorW (mSlot 0) (mSlot 2)).bind fun d => M.ret (.dat d)) (mCons ((m2 gFloorW (mSlot 1) (mSlot 2)).bind fun d => M.ret (.dat d)) (mNil)))).bind fun d => M.ret (.sh d))))
def fn_cut : Fn := fnM 2 [false, false] m_cut
-- _law_figure of k61
def m_figure : M Out := sSeq (sSet 1 (mCallO fn_draw (mCons (mSlot 0) (mCons ((M.ret (.int 5)).bind fun d => M.ret (.dat d)) (mNil))))) (sSeq (sIf ((m2 gLt (mSlot 1) ((M.ret (.int 3)).bind fun d => M.ret (.dat d))).bind asBool) (sRet (mCallO fn_draw (mCons (mSlot 0) (mCons ((M.ret (.int 10)).bind fun d => M.ret (.dat d)) (mNil))))) (sNext)) (sSeq (sSet 2 (mCallO fn_draw (mCons (mSlot 0) (mCons ((m2 gPow ((M.ret (.int 10)).bind fun d => M.ret (.dat d)) ((M.ret (.int 6)).bind fun d => M.ret (.dat d))).bind fun d => M.ret (.dat d)) (mNil))))) (sRet (mIf ((m2 gEq (mSlot 1) ((M.ret (.int 3)).bind fun d => M.ret (.dat d))).bind asBool) ((mName 2).bind fun d => M.ret (.sh d)) (m2 aAdd (((m2 aAdd (((m2 aMulT (mSlot 2) ((m2 gPow ((M.ret (.int 10)).bind fun d => M.ret (.dat d)) ((M.ret (.int 24)).bind fun d => M.ret (.dat d))).bind fun d => M.ret (.dat d))).bind fz).bind fun d => M.ret (.dat d)) (((m2 aMulT (((mCallO fn_draw (mCons (mSlot 0) (mCons ((m2 gPow ((M.ret (.int 10)).bind fun d => M.ret (.dat d)) ((M.ret (.int 6)).bind fun d => M.ret (.dat d))).bind fun d => M.ret (.dat d)) (mNil)))).bind fz).bind fun d => M.ret (.dat d)) ((m2 gPow ((M.ret (.int 10)).bind fun d => M.ret (.dat d)) ((M.ret (.int 6)).bind fun d => M.ret (.dat d))).bind fun d => M.ret (.dat d))).bind fz).bind fun d => M.ret (.dat d))).bind fz).bind fun d => M.ret (.dat d)) ((M.ret (.int 1)).bind fun d => M.ret (.dat d)))))))
def fn_figure : Fn := fnM 2 [true] m_figure
-- _law_fraction of k61
def m_fraction : M Out := sRet (mCall fn_cut (mCons (((mCallO fn_figure (mCons (mSlot 0) (mNil))).bind fz).bind fun d => M.ret (.dat d)) (mCons (((m2 aAdd (((mCallO fn_figure (mCons (mSlot 0) (mNil))).bind fz).bind fun d => M.ret (.dat d)) ((M.ret (.int 1)).bind fun d => M.ret (.dat d))).bind fz).bind fun d => M.ret (.dat d)) (mNil))))
def fn_fraction : Fn := fnM 0 [true] m_fraction
-- _law_is_fraction of k61
def m_own_is_fraction : M Out := sSeq (sIf (mOr (mNot ((m1 (gIsi "tuple") (mSlot 0)).bind truD)) ((m2 gNe (((mL gLen (mCons (mSlot 0) (mNil))).bind fz).bind fun d => M.ret (.dat d)) ((M.ret (.int 2)).bind fun d => M.ret (.dat d))).bind asBool)) (sRet ((M.ret (.bool false)).bind fun d => M.ret (.sh d))) (sNext)) (sSeq (sIf (mOr (mNot (((mCall fn_is_number (mCons ((m2 gIx (mSlot 0) ((M.ret (.int 0)).bind fun d => M.ret (.dat d))).bind fun d => M.ret (.dat d)) (mNil))).bind fz).bind truD)) (mNot (((mCall fn_is_number (mCons ((m2 gIx (mSlot 0) ((M.ret (.int 1)).bind fun d => M.ret (.dat d))).bind fun d => M.ret (.dat d)) (mNil))).bind fz).bind truD))) (sRet ((M.ret (.bool false)).bind fun d => M.ret (.sh d))) (sNext)) (sRet ((mAndV (m2 gGe ((m2 gIx (mSlot 0) ((M.ret (.int 0)).bind fun d => M.ret (.dat d))).bind fun d => M.ret (.dat d)) ((M.ret (.int 0)).bind fun d => M.ret (.dat d))) (mAndV (m2 gGt ((m2 gIx (mSlot 0) ((M.ret (.int 1)).bind fun d => M.ret (.dat d))).bind fun d => M.ret (.dat d)) ((M.ret (.int 0)).bind fun d => M.ret (.dat d))) (m2 gEq (((mCall fn_cut (mCons ((m2 gIx (mSlot 0) ((M.ret (.int 0)).bind fun d => M.ret (.dat d))).bind fun d => M.ret (.dat d)) (mCons ((m2 gIx (mSlot 0) ((M.ret (.int 1)).bind fun d => M.ret (.dat d))).bind fun d => M.ret (.dat d)) (mNil)))).bind fz).bind fun d => M.ret (.dat d)) (mSlot 0)))).bind fun d => M.ret (.sh d))))
def fn_own_is_fraction : Fn := fnM 0 [false] m_own_is_fraction
-- _law_total of k61
def m_total_b1 : M Out := sSet 1 (mCall fn_cut (mCons (((m2 aAdd (((m2 aMulT ((m2 gIx (mSlot 1) ((M.ret (.int 0)).bind fun d => M.ret (.dat d))).bind fun d => M.ret (.dat d)) (mSlot 3)).bind fz).bind fun d => M.ret (.dat d)) (((m2 aMulT (mSlot 2) ((m2 gIx (mSlot 1) ((M.ret (.int 1)).bind fun d => M.ret (.dat d))).bind fun d => M.ret (.dat d))).bind fz).bind fun d => M.ret (.dat d))).bind fz).bind fun d => M.ret (.dat d)) (mCons (((m2 aMulT ((m2 gIx (mSlot 1) ((M.ret (.int 1)).bind fun d => M.ret (.dat d))).bind fun d => M.ret (.dat d)) (mSlot 3)).bind fz).bind fun d => M.ret (.dat d)) (mNil))))
def m_total : M Out := sSeq (sSet 1 ((mFix tupG (mCons ((M.ret (.int 0)).bind fun d => M.ret (.dat d)) (mCons ((M.ret (.int 1)).bind fun d => M.ret (.dat d)) (mNil)))).bind fun d => M.ret (.sh d))) (sSeq (sFor ((mName 0).bind seqItems) (tTup [tName 2, tName 3]) (m_total_b1)) (sRet (mTake 1)))
def fn_total : Fn := fnM 3 [false] m_total
-- law of k61
def m_law_k61_e1 : M PyData := (mCallO fn_fraction (mCons (mSlot 1) (mNil))).bind fz
def m_law_k61_e2 : M PyData := mFix tupG (mCons ((m2 gIx (mSlot 4) ((m2 gSub (mSlot 14) ((M.ret (.int 1)).bind fun d => M.ret (.dat d))).bind fun d => M.ret (.dat d))).bind fun d => M.ret (.dat d)) (mCons ((m2 gIx (mSlot 4) (mSlot 14)).bind fun d => M.ret (.dat d)) (mNil)))
def m_law_k61_b3 : M Out := sSeq (sSet 9 (mL gRepr (mCons (((m2 aMulT (((mFix lstG (mCons ((m2 gLt (((m2 aMulT ((m2 gIx (mSlot 11) ((M.ret (.int 0)).bind fun d => M.ret (.dat d))).bind fun d => M.ret (.dat d)) ((m2 gIx (mSlot 12) ((M.ret (.int 1)).bind fun d => M.ret (.dat d))).bind fun d => M.ret (.dat d))).bind fz).bind fun d => M.ret (.dat d)) (((m2 aMulT ((m2 gIx (mSlot 12) ((M.ret (.int 0)).bind fun d => M.ret (.dat d))).bind fun d => M.ret (.dat d)) ((m2 gIx (mSlot 11) ((M.ret (.int 1)).bind fun d => M.ret (.dat d))).bind fun d => M.ret (.dat d))).bind fz).bind fun d => M.ret (.dat d))).bind fun d => M.ret (.dat d)) (mNil))).bind fz).bind fun d => M.ret (.dat d)) ((M.ret (.int 2)).bind fun d => M.ret (.dat d))).bind fz).bind fun d => M.ret (.dat d)) (mNil)))) (sIf ((m2 gNe (((mL gRepr (mCons (((mFix lstG (mCons (((mCall fn_is_less (mCons ((mName 11).bind fun d => M.ret (.dat d)) (mCons ((mName 12).bind fun d => M.ret (.dat d)) (mNil)))).bind fz).bind fun d => M.ret (.dat d)) (mCons (((mCall fn_is_less (mPick [.inl 1, .inl 0] (mApp (mNil) (mCons ((mName 12).bind fun d => M.ret (.dat d)) (mCons ((mName 11).bind fun d => M.ret (.dat d)) (mNil)))))).bind fz).bind fun d => M.ret (.dat d)) (mNil)))).bind fz).bind fun d => M.ret (.dat d)) (mNil))).bind fz).bind fun d => M.ret (.dat d)) (mSlot 9)).bind asBool) (sRet ((M.ret (.bool false)).bind fun d => M.ret (.sh d))) (sNext))
def m_law_k61_b4 : M Out := sSeq (sSet 4 (mL gTuple (mCons (((mComp (mL rng1 (mCons (((mCallO fn_draw (mCons (mSlot 1) (mCons ((M.ret (.int 10)).bind fun d => M.ret (.dat d)) (mNil)))).bind fz).bind fun d => M.ret (.dat d)) (mNil))) (tName 14) (M.ret true) (m_law_k61_e1) [14]).bind fz).bind fun d => M.ret (.dat d)) (mNil)))) (sSeq (sPar 5 6 (mCallO fn_fraction (mCons (mSlot 1) (mNil))) (mCallO fn_fraction (mCons (mSlot 1) (mNil)))) (sSeq (sSet 7 ((mFix tupG (mCons (((m2 aMulT ((m2 gIx (mSlot 5) ((M.ret (.int 0)).bind fun d => M.ret (.dat d))).bind fun d => M.ret (.dat d)) ((M.ret (.int 2)).bind fun d => M.ret (.dat d))).bind fz).bind fun d => M.ret (.dat d)) (mCons (((m2 aMulT ((m2 gIx (mSlot 5) ((M.ret (.int 1)).bind fun d => M.ret (.dat d))).bind fun d => M.ret (.dat d)) ((M.ret (.int 2)).bind fun d => M.ret (.dat d))).bind fz).bind fun d => M.ret (.dat d)) (mNil)))).bind fun d => M.ret (.sh d))) (sSeq (sSet 2 (m2 aAdd (((m2 aAdd (mSlot 2) (((mL gList (mCons (mSlot 4) (mNil))).bind fz).bind fun d => M.ret (.dat d))).bind fz).bind fun d => M.ret (.dat d)) (((mFix lstG (mCons ((mName 5).bind fun d => M.ret (.dat d)) (mCons ((mName 7).bind fun d => M.ret (.dat d)) (mCons ((mFix tupG (mCons ((m2 gIx (mSlot 5) ((M.ret (.int 1)).bind fun d => M.ret (.dat d))).bind fun d => M.ret (.dat d)) (mCons ((m2 gIx (mSlot 5) ((M.ret (.int 0)).bind fun d => M.ret (.dat d))).bind fun d => M.ret (.dat d)) (mNil)))).bind fun d => M.ret (.dat d)) (mCons (((mCallO (fn_bent 12) (mCons (mSlot 1) (mCons ((mName 5).bind fun d => M.ret (.dat d)) (mNil)))).bind fz).bind fun d => M.ret (.dat d)) (mCons (((mCallO (fn_bent 12) (mCons (mSlot 1) (mCons ((mName 6).bind fun d => M.ret (.dat d)) (mNil)))).bind fz).bind fun d => M.ret (.dat d)) (mNil))))))).bind fz).bind fun d => M.ret (.dat d)))) (sSeq (sPar 8 9 (mL gRepr (mCons (mSlot 4) (mNil))) (mL gRepr (mCons (((m2 aMulT (((mFix lstG (mCons (((mCall fn_total (mCons ((mName 4).bind fun d => M.ret (.dat d)) (mNil))).bind fz).bind fun d => M.ret (.dat d)) (mNil))).bind fz).bind fun d => M.ret (.dat d)) ((M.ret (.int 2)).bind fun d => M.ret (.dat d))).bind fz).bind fun d => M.ret (.dat d)) (mNil)))) (sSeq (sIf (mOr ((m2 gNe (((mL gRepr (mCons (((mFix lstG (mCons (((mCall fn_fraction_sum (mCons ((mName 4).bind fun d => M.ret (.dat d)) (mNil))).bind fz).bind fun d => M.ret (.dat d)) (mCons (((mCall fn_fraction_sum (mPick [.inl 0] (mApp (mNil) (mCons ((mName 4).bind fun d => M.ret (.dat d)) (mNil))))).bind fz).bind fun d => M.ret (.dat d)) (mNil)))).bind fz).bind fun d => M.ret (.dat d)) (mNil))).bind fz).bind fun d => M.ret (.dat d)) (mSlot 9)).bind asBool) ((m2 gNe (((mL gRepr (mCons (mSlot 4) (mNil))).bind fz).bind fun d => M.ret (.dat d)) (mSlot 8)).bind asBool)) (sRet ((M.ret (.bool false)).bind fun d => M.ret (.sh d))) (sNext)) (sSeq (sSet 10 (m2 aAdd (((mFix lstG (mCons ((mFix tupG (mCons ((mName 5).bind fun d => M.ret (.dat d)) (mCons ((mName 6).bind fun d => M.ret (.dat d)) (mNil)))).bind fun d => M.ret (.dat d)) (mCons ((mFix tupG (mCons ((mName 6).bind fun d => M.ret (.dat d)) (mCons ((mName 5).bind fun d => M.ret (.dat d)) (mNil)))).bind fun d => M.ret (.dat d)) (mCons ((mFix tupG (mCons ((mName 5).bind fun d => M.ret (.dat d)) (mCons ((mName 5).bind fun d => M.ret (.dat d)) (mNil)))).bind fun d => M.ret (.dat d)) (mNil))))).bind fz).bind fun d => M.ret (.dat d)) (((mComp (mL rng2 (mCons ((M.ret (.int 1)).bind fun d => M.ret (.dat d)) (mCons (((mL gLen (mCons (mSlot 4) (mNil))).bind fz).bind fun d => M.ret (.dat d)) (mNil)))) (tName 14) (M.ret true) (m_law_k61_e2) [14]).bind fz).bind fun d => M.ret (.dat d)))) (sFor ((mName 10).bind seqItems) (tTup [tName 11, tName 12]) (m_law_k61_b3))))))))
def m_law_k61_b5 : M Out := sSeq (sSet 8 (mL gRepr (mCons (mSlot 13) (mNil)))) (sIf (mOr ((m2 gNe (((mL gRepr (mCons (((mCall fn_is_fraction (mCons ((mName 13).bind fun d => M.ret (.dat d)) (mNil))).bind fz).bind fun d => M.ret (.dat d)) (mNil))).bind fz).bind fun d => M.ret (.dat d)) (((mL gRepr (mCons (((mCall fn_own_is_fraction (mCons ((mName 13).bind fun d => M.ret (.dat d)) (mNil))).bind fz).bind fun d => M.ret (.dat d)) (mNil))).bind fz).bind fun d => M.ret (.dat d))).bind asBool) ((m2 gNe (((mL gRepr (mCons (mSlot 13) (mNil))).bind fz).bind fun d => M.ret (.dat d)) (mSlot 8)).bind asBool)) (sRet ((M.ret (.bool false)).bind fun d => M.ret (.sh d))) (sNext))
def m_law_k61 : M Out := sSeq (sSet 1 (mCall fn_feed (mCons (mSlot 0) (mNil)))) (sSeq (sSet 2 (mFix lstG (mCons ((mFix tupG (mCons ((M.ret (.int 0)).bind fun d => M.ret (.dat d)) (mCons ((M.ret (.int 1)).bind fun d => M.ret (.dat d)) (mNil)))).bind fun d => M.ret (.dat d)) (mCons ((mFix tupG (mCons ((M.ret (.int 0)).bind fun d => M.ret (.dat d)) (mCons ((M.ret (.int 2)).bind fun d => M.ret (.dat d)) (mNil)))).bind fun d => M.ret (.dat d)) (mCons ((mFix tupG (mCons ((M.ret (.int 2)).bind fun d => M.ret (.dat d)) (mCons ((M.ret (.int 4)).bind fun d => M.ret (.dat d)) (mNil)))).bind fun d => M.ret (.dat d)) (mCons ((mFix tupG (mCons ((M.ret (.int 1)).bind fun d => M.ret (.dat d)) (mCons ((M.ret (.int 0)).bind fun d => M.ret (.dat d)) (mNil)))).bind fun d => M.ret (.dat d)) (mCons ((mFix tupG (mCons (((M.ret (.int 1)).bind negD).bind fun d => M.ret (.dat d)) (mCons ((M.ret (.int 2)).bind fun d => M.ret (.dat d)) (mNil)))).bind fun d => M.ret (.dat d)) (mCons ((mFix tupG (mCons ((M.ret (.int 1)).bind fun d => M.ret (.dat d)) (mCons (((M.ret (.int 2)).bind negD).bind fun d => M.ret (.dat d)) (mNil)))).bind fun d => M.ret (.dat d)) (mCons ((mFix tupG (mCons ((M.ret (.bool true)).bind fun d => M.ret (.dat d)) (mCons ((M.ret (.int 2)).bind fun d => M.ret (.dat d)) (mNil)))).bind fun d => M.ret (.dat d)) (mCons ((mFix tupG (mCons ((M.ret (.int 1)).bind fun d => M.ret (.dat d)) (mCons ((M.ret (.bool true)).bind fun d => M.ret (.dat d)) (mNil)))).bind fun d => M.ret (.dat d)) (mCons (((mFix lstG (mCons ((M.ret (.int 1)).bind fun d => M.ret (.dat d)) (mCons ((M.ret (.int 2)).bind fun d => M.ret (.dat d)) (mNil)))).bind fz).bind fun d => M.ret (.dat d)) (mCons ((mFix tupG (mCons ((M.ret (.int 1)).bind fun d => M.ret (.dat d)) (mCons ((M.ret (.int 2)).bind fun d => M.ret (.dat d)) (mCons ((M.ret (.int 3)).bind fun d => M.ret (.dat d)) (mNil))))).bind fun d => M.ret (.dat d)) (mCons ((mFix tupG (mCons ((M.ret (.int 1)).bind fun d => M.ret (.dat d)) (mNil))).bind fun d => M.ret (.dat d)) (mCons ((M.ret .none).bind fun d => M.ret (.dat d)) (mCons ((M.ret (.int 1)).bind fun d => M.ret (.dat d)) (mNil)))))))))))))))) (sSeq (sSet 2 (m2 aAdd (mSlot 2) (((mFix lstG (mCons ((M.ret (.str "1")).bind fun d => M.ret (.dat d)) (mCons ((mFix tupG (mCons ((m2 gPow ((M.ret (.int 10)).bind fun d => M.ret (.dat d)) ((M.ret (.int 40)).bind fun d => M.ret (.dat d))).bind fun d => M.ret (.dat d)) (mCons ((M.ret (.int 3)).bind fun d => M.ret (.dat d)) (mNil)))).bind fun d => M.ret (.dat d)) (mCons ((mFix tupG (mCons ((M.ret (.int 3)).bind fun d => M.ret (.dat d)) (mCons ((m2 gPow ((M.ret (.int 10)).bind fun d => M.ret (.dat d)) ((M.ret (.int 40)).bind fun d => M.ret (.dat d))).bind fun d => M.ret (.dat d)) (mNil)))).bind fun d => M.ret (.dat d)) (mCons ((mFix tupG (mCons ((M.ret (.int 6)).bind fun d => M.ret (.dat d)) (mCons ((M.ret (.int 3)).bind fun d => M.ret (.dat d)) (mNil)))).bind fun d => M.ret (.dat d)) (mCons ((mFix tupG (mCons ((M.ret (.int 3)).bind fun d => M.ret (.dat d)) (mCons ((M.ret (.int 3)).bind fun d => M.ret (.dat d)) (mNil)))).bind fun d => M.ret (.dat d)) (mCons ((mFix tupG (mCons ((M.ret (.int 1)).bind fun d => M.ret (.dat d)) (mCons ((M.ret (.int 1)).bind fun d => M.ret (.dat d)) (mNil)))).bind fun d => M.ret (.dat d)) (mCons ((mFix tupG (mCons ((M.ret (.str "1")).bind fun d => M.ret (.dat d)) (mCons ((M.ret (.int 2)).bind fun d => M.ret (.dat d)) (mNil)))).bind fun d => M.ret (.dat d)) (mCons ((mFix tupG (mCons ((M.ret (.int 0)).bind fun d => M.ret (.dat d)) (mCons ((M.ret (.int 0)).bind fun d => M.ret (.dat d)) (mNil)))).bind fun d => M.ret (.dat d)) (mCons ((mFix tupG (mCons ((M.ret (.int 0)).bind fun d => M.ret (.dat d)) (mCons (((M.ret (.int 1)).bind negD).bind fun d => M.ret (.dat d)) (mNil)))).bind fun d => M.ret (.dat d)) (mNil))))))))))).bind fz).bind fun d => M.ret (.dat d)))) (sSeq (sFor (mL rng1 (mCons ((M.ret (.int 3)).bind fun d => M.ret (.dat d)) (mNil))) (tName 3) (m_law_k61_b4)) (sSeq (sFor ((mName 2).bind seqItems) (tName 13) (m_law_k61_b5)) (sSeq (sIf (mOr ((m2 gNe (((mCall fn_fraction_sum (mCons (((m2 aMulT ((mFix tupG (mCons ((mFix tupG (mCons ((M.ret (.int 1)).bind fun d => M.ret (.dat d)) (mCons ((M.ret (.int 40)).bind fun d => M.ret (.dat d)) (mNil)))).bind fun d => M.ret (.dat d)) (mNil))).bind fun d => M.ret (.dat d)) ((M.ret (.int 40)).bind fun d => M.ret (.dat d))).bind fz).bind fun d => M.ret (.dat d)) (mNil))).bind fz).bind fun d => M.ret (.dat d)) ((mFix tupG (mCons ((M.ret (.int 1)).bind fun d => M.ret (.dat d)) (mCons ((M.ret (.int 1)).bind fun d => M.ret (.dat d)) (mNil)))).bind fun d => M.ret (.dat d))).bind asBool) ((m2 gNe (((mCall fn_fraction_sum (mCons (((m2 aMulT ((mFix tupG (mCons ((mFix tupG (mCons ((M.ret (.int 1)).bind fun d => M.ret (.dat d)) (mCons ((M.ret (.int 2)).bind fun d => M.ret (.dat d)) (mNil)))).bind fun d => M.ret (.dat d)) (mCons ((mFix tupG (mCons ((M.ret (.int 1)).bind fun d => M.ret (.dat d)) (mCons ((M.ret (.int 3)).bind fun d => M.ret (.dat d)) (mNil)))).bind fun d => M.ret (.dat d)) (mNil)))).bind fun d => M.ret (.dat d)) ((M.ret (.int 30)).bind fun d => M.ret (.dat d))).bind fz).bind fun d => M.ret (.dat d)) (mNil))).bind fz).bind fun d => M.ret (.dat d)) ((mFix tupG (mCons ((M.ret (.int 25)).bind fun d => M.ret (.dat d)) (mCons ((M.ret (.int 1)).bind fun d => M.ret (.dat d)) (mNil)))).bind fun d => M.ret (.dat d))).bind asBool)) (sRet ((M.ret (.bool false)).bind fun d => M.ret (.sh d))) (sNext)) (sRet ((mAndV (m2 gEq (((mCall fn_fraction_sum (mCons ((mFix tupG (mNil)).bind fun d => M.ret (.dat d)) (mNil))).bind fz).bind fun d => M.ret (.dat d)) ((mFix tupG (mCons ((M.ret (.int 0)).bind fun d => M.ret (.dat d)) (mCons ((M.ret (.int 1)).bind fun d => M.ret (.dat d)) (mNil)))).bind fun d => M.ret (.dat d))) (m1 (gIsB true) (((mCall fn_is_fraction (mPick [.inl 0] (mApp (mNil) (mCons ((mFix tupG (mCons ((M.ret (.int 1)).bind fun d => M.ret (.dat d)) (mCons ((M.ret (.int 3)).bind fun d => M.ret (.dat d)) (mNil)))).bind fun d => M.ret (.dat d)) (mNil))))).bind fz).bind fun d => M.ret (.dat d)))).bind fun d => M.ret (.sh d))))))))
def fn_law_k61 : Fn := fnM 14 [false] m_law_k61
end Lw
namespace Eg
open PySem L2 PySem.W PySem.SeqAt
theorem boolsOf_map {α : Type} (p : α → Bool) : ∀ l : List α, boolsOf (l.map fun x => .bool (p x)) = some (l.map p)
  | [] => rfl
  | x :: l => by rw [List.map_cons, boolsOf, boolsOf_map p l]; rfl
theorem gAll_map {α : Type} (p : α → Bool) (l : List α) : gAll [.list (l.map fun x => .bool (p x))] = some (.sh (.bool (l.all p))) := by
  simp only [gAll, boolsOf_map, Option.map_some, List.all_map]
  rfl
theorem gAny_map {α : Type} (p : α → Bool) (l : List α) : gAny [.list (l.map fun x => .bool (p x))] = some (.sh (.bool (l.any p))) := by
  simp only [gAny, boolsOf_map, Option.map_some, List.any_map]
  rfl
theorem gLt_of {x y : PyData} (h : alike x y = true) (n : Eg.isNon x = false) (s : small x = true) : gLt x y = some (.bool (dataLt x y)) := by
  simp [gLt, cmpOk, h, n, s]
theorem gLe_str (x y : Str) : gLe (.str x) (.str y) = some (.bool (!decide (y.cps.toList < x.cps.toList))) := by
  simp [gLe, cmpOk, alike, Eg.isNon, small, PyData.depth, dataLt_str]
theorem gLt_str (x y : Str) : gLt (.str x) (.str y) = some (.bool (decide (x.cps.toList < y.cps.toList))) := by
  simp [gLt, cmpOk, alike, Eg.isNon, small, PyData.depth, dataLt_str]
theorem gLen_str {x : Str} (h : x.length ≤ sizeLine) : gLen [.str x] = some (.sh (.int x.length)) := if_pos h
theorem sgn_a (c : Nat) : (!decide (([c] : List Nat) < ("a" : Str).cps.toList)) = decide (97 ≤ c) := by
  have e : ("a" : Str).cps.toList = [97] := by decide +kernel
  rw [e]
  by_cases h : c < 97
  · have : ([c] : List Nat) < [97] := List.Lex.rel h
    rw [decide_eq_true this]
    exact (decide_eq_false (by omega)).symm
  · have : ¬ ([c] : List Nat) < [97] := fun z => by
      cases z with
      | rel z => exact h z
      | cons z => cases z
    rw [decide_eq_false this]
    exact (decide_eq_true (by omega)).symm
theorem sgn_z (c : Nat) : (!decide (("z" : Str).cps.toList < ([c] : List Nat))) = decide (c ≤ 122) := by
  have e : ("z" : Str).cps.toList = [122] := by decide +kernel
  rw [e]
  by_cases h : 122 < c
  · have : ([122] : List Nat) < [c] := List.Lex.rel h
    rw [decide_eq_true this]
    exact (decide_eq_false (by omega)).symm
  · have : ¬ ([122] : List Nat) < [c] := fun z => by
      cases z with
      | rel z => exact h z
      | cons z => cases z
    rw [decide_eq_false this]
    exact (decide_eq_true (by omega)).symm
end Eg
namespace Lw
open PySem L2 PySem.W PySem.SeqAt Eg
def isCount : PyData → Bool
  | .int i => decide (0 ≤ i)
  | _ => false
theorem is_count_int (i : Int) : fn_is_count [some (.sh (.int i))] = .ok (.sh (.bool (decide (0 ≤ i)))) [none] := by
  have ge := gGe_int i 0
  unfold fn_is_count m_is_count
  simp! only [ge]
def wordB (x : Str) : Bool := (decide (1 ≤ (x.length : Int)) && decide ((x.length : Int) ≤ 8)) && x.cps.toList.all fun c => decide (97 ≤ c) && decide (c ≤ 122)
theorem is_word_str {x : Str} (h : x.length ≤ sizeLine) : fn_is_word [some (.sh (.str x))] = .ok (.sh (.bool (wordB x))) [none] := by
  have lx : x.cps.toList.length = x.length := by simp [Str.length]
  have hc : mComp ((mName 0).bind txtItems) (tName 1) (M.ret true) m_is_word_e1 [1] [some (.sh (.str x)), none] = .ok (.ol (x.cps.toList.map fun c => .bool (decide (97 ≤ c) && decide (c ≤ 122)))) [some (.sh (.str x)), none] := by
    refine comp_pure (f := fun c => PyData.str ⟨#[c]⟩) (fun c => .bool (decide (97 ≤ c) && decide (c ≤ 122))) (by simp! only [v_txt]; rfl) (by rw [lx]; exact h) fun c _ => ⟨[some (.sh (.str x)), some (.sh (.str ⟨#[c]⟩))], [some (.sh (.str x)), some (.sh (.str ⟨#[c]⟩))], rfl, ?_, rfl⟩
    have g1 := gLe_str "a" ⟨#[c]⟩
    have g2 := gLe_str ⟨#[c]⟩ "z"
    rw [show (⟨#[c]⟩ : Str).cps.toList = [c] from rfl] at g1 g2
    rw [sgn_a] at g1
    rw [sgn_z] at g2
    unfold m_is_word_e1
    simp! only [g1]
    cases q : decide (97 ≤ c) with
    | true => simp! only [g2]
    | false => simp! only []
  have ga := gAll_map (fun c => decide (97 ≤ c) && decide (c ≤ 122)) x.cps.toList
  have gl := gLen_str h
  unfold fn_is_word m_is_word wordB
  simp! only [gl]
  cases q : decide (1 ≤ (x.length : Int)) with
  | false => simp! only []
  | true =>
    simp! only [gl]
    cases q2 : decide ((x.length : Int) ≤ 8) with
    | false => simp! only []
    | true => simp! only [hc, ga]
/-- each below the next -/
def adj : List PyData → Bool
  | x :: y :: l => dataLt x y && adj (y :: l)
  | _ => true
theorem adj_zip : ∀ l : List PyData, ((l.zip (l.drop 1)).all fun p => dataLt p.1 p.2) = adj l
  | [] => rfl
  | [_] => rfl
  | x :: y :: l => by
    have := adj_zip (y :: l)
    simp only [List.drop_succ_cons, List.drop_zero, List.zip_cons_cons, List.all_cons] at this ⊢
    rw [this]
    rfl
theorem zipWith_map_zip {α β : Type} (f : α → α → β) (l m : List α) : List.zipWith f l m = (l.zip m).map fun p => f p.1 p.2 := by
  induction l generalizing m with
  | nil => simp
  | cons x l ih =>
    cases m with
    | nil => simp
    | cons y m => simp [ih]
theorem cut1 (ds : List PyData) : cutD ds (some 1) none = ds.drop 1 := cut_from ds 0
theorem rises_ok {ds : List PyData} (hl : ds.length ≤ 100000) (h : ∀ x ∈ ds, ∀ y ∈ ds, alike x y = true ∧ Eg.isNon x = false ∧ small x = true) : fn_rises [some (.sh (.list ds))] = .ok (.sh (.bool (adj ds))) [none] := by
  have z := sizeLine_eq
  have sl : gSl (.list ds) (some 1) none = some (.ol (ds.drop 1)) := by
    show some (OD.ol (cutD ds (some 1) none)) = _
    rw [cut1]
  have hc : mComp ((mName 0).bind fun x => ((mSl (mSlot 0) ((M.ret (.int 1)).bind fun d => (asInt d).bind fun i => M.ret (some i)) (M.ret none)).bind fz).bind fun y => M.lift (zipD x y)) (tTup [tName 1, tName 2]) (M.ret true) m_rises_e1 [1, 2] [some (.sh (.list ds)), none, none] =
      .ok (.ol ((ds.zip (ds.drop 1)).map fun p => .bool (dataLt p.1 p.2))) [some (.sh (.list ds)), none, none] := by
    refine comp_pure (f := fun p : PyData × PyData => PyData.tuple [p.1, p.2]) (fun p => .bool (dataLt p.1 p.2)) ?_ ?_ fun p hp => ⟨[some (.sh (.list ds)), some (.sh p.1), some (.sh p.2)], [some (.sh (.list ds)), some (.sh p.1), some (.sh p.2)], rfl, ?_, rfl⟩
    · have e : zipD (.list ds) (.list (ds.drop 1)) = some ((ds.zip (ds.drop 1)).map fun p => .tuple [p.1, p.2]) := by
        show some _ = _
        rw [zipWith_map_zip]
      simp! only [v_sl, sl, e]
    · rw [List.length_zip]; omega
    · have m1 := (List.of_mem_zip (a := p.1) (b := p.2) hp).1
      have m2 := List.mem_of_mem_drop (List.of_mem_zip (a := p.1) (b := p.2) hp).2
      obtain ⟨a1, a2, a3⟩ := h _ m1 _ m2
      have g := gLt_of a1 a2 a3
      unfold m_rises_e1
      simp! only [g]
  have ga := gAll_map (fun p : PyData × PyData => dataLt p.1 p.2) (ds.zip (ds.drop 1))
  rw [adj_zip] at ga
  unfold fn_rises m_rises
  simp! only [hc, ga]
end Lw
namespace Eg
open PySem L2 PySem.W PySem.SeqAt
section
variable (a b c d e : PyData) (i : Nat) (ρ : Rho)
theorem ix4_0 : gIx (.list [a, b, c, d]) (.int 0) = some a := rfl
theorem ix4_1 : gIx (.list [a, b, c, d]) (.int 1) = some b := rfl
theorem ix4_2 : gIx (.list [a, b, c, d]) (.int 2) = some c := rfl
theorem ix4_3 : gIx (.list [a, b, c, d]) (.int 3) = some d := rfl
theorem put4_1 : putLO (some (some (.ol [a, b, c, d]))) i e (.int 1) ρ = .ok .nx (ρ.set i (some (.ol [a, e, c, d]))) := rfl
theorem put4_2 : putLO (some (some (.ol [a, b, c, d]))) i e (.int 2) ρ = .ok .nx (ρ.set i (some (.ol [a, b, e, d]))) := rfl
theorem put4_3 : putLO (some (some (.ol [a, b, c, d]))) i e (.int 3) ρ = .ok .nx (ρ.set i (some (.ol [a, b, c, e]))) := rfl
end
theorem pow_lt {a : Int} {n m : Nat} (h : 0 ≤ a) (h2 : a < (10 ^ n : Nat)) : (a ^ m).natAbs < 10 ^ (n * m) + 1 := by
  have : a.natAbs < 10 ^ n := by omega
  rw [Int.natAbs_pow, Nat.pow_mul]
  have := Nat.pow_le_pow_left (Nat.le_of_lt this) m
  omega
end Eg
namespace Lw
open PySem L2 PySem.W PySem.SeqAt Eg
def FeedAt (xs : List PyData) (n : Nat) : Prop := ∃ c s r k, xs = [.list c, .int s, .int r, .int k] ∧ (∀ d ∈ c, ∃ i, d = PyData.int i) ∧ 0 ≤ s ∧ 0 ≤ k ∧ k ≤ n
theorem FeedAt.mono {xs : List PyData} {n m : Nat} (h : FeedAt xs n) (l : n ≤ m) : FeedAt xs m := by
  obtain ⟨c, s, r, k, e, h1, h2, h3, h4⟩ := h
  exact ⟨c, s, r, k, e, h1, h2, h3, by omega⟩
theorem draw_at {xs : List PyData} {n : Nat} {many : Int} (hf : FeedAt xs n) (hn : n < 1000000) (h1 : 0 < many) (h2 : many < 1073741824) :
    ∃ v xs', 0 ≤ v ∧ v < many ∧ FeedAt xs' (n + 1) ∧ fn_draw [some (.ol xs), some (.sh (.int many))] = .ok (.sh (.int v)) [some (.ol xs'), none] := by
  obtain ⟨c, s, r, k, rfl, hc, hs, hk, hkn⟩ := hf
  have h2b : many.natAbs < 2 ^ 31 := by omega
  have fl : ∀ a : Int, gFloorW (.int a) (.int many) = some (.int (a / many)) := fun a => gFloorW_int h1 h2b
  by_cases h : 0 < r
  · refine ⟨r % many, [.list c, .int s, .int (r / many), .int (k + 1)], Int.emod_nonneg _ (Int.ne_of_gt h1), Int.emod_lt_of_pos _ h1, ⟨c, s, _, _, rfl, hc, hs, by omega, by omega⟩, ?_⟩
    unfold fn_draw m_draw
    simp?! only [ix4_3, ix4_2, put4_3, put4_2, h, gMod_int h1, fl]
  · have last : ∀ x : Int, ∃ v : Int, 0 ≤ v ∧ v < many ∧ (gPow (.int (x % 2147483629 + 130043 * (k + 1) + 83)) (.int 5) = some (.int ((x % 2147483629 + 130043 * (k + 1) + 83) ^ (5 : Int).toNat))) ∧
        (aMulT (.int ((x % 2147483629 + 130043 * (k + 1) + 83) ^ (5 : Int).toNat % 2147483647)) (.int (k + 1 + 11)) = some (.sh (.int ((x % 2147483629 + 130043 * (k + 1) + 83) ^ (5 : Int).toNat % 2147483647 * (k + 1 + 11))))) ∧
        gPow (.int ((x % 2147483629 + 130043 * (k + 1) + 83) ^ (5 : Int).toNat % 2147483647 * (k + 1 + 11) + 64577 * (k + 1))) (.int 5) = some (.int (((x % 2147483629 + 130043 * (k + 1) + 83) ^ (5 : Int).toNat % 2147483647 * (k + 1 + 11) + 64577 * (k + 1)) ^ (5 : Int).toNat)) ∧
        v = ((x % 2147483629 + 130043 * (k + 1) + 83) ^ (5 : Int).toNat % 2147483647 * (k + 1 + 11) + 64577 * (k + 1)) ^ (5 : Int).toNat % 2147483587 / 64 % many := by
      intro x
      have b4 := Int.emod_nonneg ((x % 2147483629 + 130043 * (k + 1) + 83) ^ (5 : Int).toNat) (show (2147483647 : Int) ≠ 0 by decide)
      have b5 := Int.emod_lt_of_pos ((x % 2147483629 + 130043 * (k + 1) + 83) ^ (5 : Int).toNat) (show (0 : Int) < 2147483647 by decide)
      refine ⟨_, Int.emod_nonneg _ (Int.ne_of_gt h1), Int.emod_lt_of_pos _ h1, gPow_int ⟨by decide, by decide, ?_⟩, ?_, gPow_int ⟨by decide, by decide, ?_⟩, rfl⟩
      · omega
      · exact aMulT_int (a := 40) (b := 40) (by omega) (by omega)
      · generalize (x % 2147483629 + 130043 * (k + 1) + 83) ^ (5 : Int).toNat % 2147483647 = y at b4 b5
        have b6 : y * (k + 1 + 11) ≤ 2147483647 * 1000013 := Int.mul_le_mul (by omega) (by omega) (by omega) (by omega)
        have b7 : 0 ≤ y * (k + 1 + 11) := Int.mul_nonneg b4 (by omega)
        generalize y * (k + 1 + 11) = z at b6 b7
        omega
    have m1 : ∀ a : Int, gMod (.int a) (.int 2147483629) = some (.int (a % 2147483629)) := fun a => gMod_int (by decide)
    have m2' : ∀ a : Int, gMod (.int a) (.int 2147483647) = some (.int (a % 2147483647)) := fun a => gMod_int (by decide)
    have m3 : ∀ a : Int, gMod (.int a) (.int 2147483587) = some (.int (a % 2147483587)) := fun a => gMod_int (by decide)
    have m4 : ∀ a : Int, gFloorW (.int a) (.int 64) = some (.int (a / 64)) := fun a => gFloorW_int (b := 10) (by decide) (by decide)
    have m5 : aMulT (.int 130043) (.int (k + 1)) = some (.sh (.int (130043 * (k + 1)))) := aMulT_int (a := 40) (b := 40) (by decide) (by omega)
    have m6 : aMulT (.int 64577) (.int (k + 1)) = some (.sh (.int (64577 * (k + 1)))) := aMulT_int (a := 40) (b := 40) (by decide) (by omega)
    have p1 : gPow (.int 10) (.int 18) = some (.int (10 ^ (18 : Int).toNat)) := gPow_int (by decide)
    by_cases hc0 : 0 < (c.length : Int)
    · obtain ⟨x, ex⟩ := cell_at (s := s) hc hc0
      have mm := gMod_int (a := s) hc0
      obtain ⟨v, v1, v2, e1, e2, e3, ev⟩ := last x
      by_cases hx : (10 : Int) ^ (18 : Int).toNat ≤ x
      · by_cases hb : s < (c.length : Int)
        · refine ⟨x % many, [.list c, .int (s + 1), .int (x / many), .int (k + 1)], Int.emod_nonneg x (Int.ne_of_gt h1), Int.emod_lt_of_pos _ h1, ⟨c, _, _, _, rfl, hc, by omega, by omega, by omega⟩, ?_⟩
          unfold fn_draw m_draw
          simp?! only [ix4_3, ix4_2, ix4_1, ix4_0, put4_3, put4_2, put4_1, h, gMod_int h1, fl, hc0, ex, mm, hb, hx, p1]
        · refine ⟨v, [.list c, .int (s + 1), .int r, .int (k + 1)], v1, v2, ⟨c, _, _, _, rfl, hc, by omega, by omega, by omega⟩, ?_⟩
          rw [ev]
          unfold fn_draw m_draw
          simp?! only [ix4_3, ix4_2, ix4_1, ix4_0, put4_3, put4_2, put4_1, h, gMod_int h1, hc0, ex, mm, hb, hx, p1, m1, m2', m3, m4, m5, m6, e1, e2, e3]
      · refine ⟨v, [.list c, .int (s + 1), .int r, .int (k + 1)], v1, v2, ⟨c, _, _, _, rfl, hc, by omega, by omega, by omega⟩, ?_⟩
        rw [ev]
        unfold fn_draw m_draw
        simp?! only [ix4_3, ix4_2, ix4_1, ix4_0, put4_3, put4_2, put4_1, h, gMod_int h1, hc0, ex, mm, hx, p1, m1, m2', m3, m4, m5, m6, e1, e2, e3]
    · obtain ⟨v, v1, v2, e1, e2, e3, ev⟩ := last 8
      have hb : ¬ s < (c.length : Int) := by omega
      have hx : ¬ (10 : Int) ^ (18 : Int).toNat ≤ 8 := by decide
      refine ⟨v, [.list c, .int (s + 1), .int r, .int (k + 1)], v1, v2, ⟨c, _, _, _, rfl, hc, by omega, by omega, by omega⟩, ?_⟩
      rw [ev]
      unfold fn_draw m_draw
      simp?! only [ix4_3, ix4_2, ix4_1, ix4_0, put4_3, put4_2, put4_1, h, gMod_int h1, hc0, hx, p1, m1, m2', m3, m4, m5, m6, e1, e2, e3]
theorem feed_new (ns : List Int) : ∃ xs, FeedAt xs 0 ∧ fn_feed [some (.sc ns)] = .ok (.ol xs) [none] := by
  refine ⟨[.list (cutD (ns.map .int) none (some 63)), .int 0, .int 0, .int 0], ⟨_, _, _, _, rfl, fun d hd => ?_, Int.le_refl _, Int.le_refl _, Int.le_refl _⟩, ?_⟩
  · obtain ⟨i, _, rfl⟩ := List.mem_map.mp (List.mem_of_mem_drop (List.mem_of_mem_take hd))
    exact ⟨i, rfl⟩
  · unfold fn_feed m_feed
    simp?! only [v_pt63, v_scr, v_scrk]
end Lw
set_option exponentiation.threshold 10000
namespace Lw
open PySem L2 PySem.W PySem.SeqAt Eg
abbrev iO (n : Nat) : Option OD := some (.sh (.int (n : Int)))
theorem cut_loop {o0 o1 : Option OD} : ∀ (e fuel a b : Nat), b < 2 ^ e → 2 * e + 1 < fuel → sWhile m_cut_w1 m_cut_b2 fuel [o0, o1, iO a, iO b] = .ok .nx [o0, o1, iO (Nat.gcd a b), iO 0] := by
  have stop : ∀ fuel a : Nat, 0 < fuel → sWhile m_cut_w1 m_cut_b2 fuel [o0, o1, iO a, iO 0] = .ok .nx [o0, o1, iO a, iO 0] := by
    intro fuel a h
    obtain ⟨g, rfl⟩ : ∃ g, fuel = g + 1 := ⟨fuel - 1, by omega⟩
    have n0 : ¬ (0 : Int) < ((0 : Nat) : Int) := by omega
    have tt : m_cut_w1 [o0, o1, iO a, iO 0] = .ok false [o0, o1, iO a, iO 0] := by
      unfold m_cut_w1
      simp?! only [n0]
    rw [v_wh, tt]
    simp?! only []
  have one : ∀ fuel a b : Nat, 0 < b → sWhile m_cut_w1 m_cut_b2 (fuel + 1) [o0, o1, iO a, iO b] = sWhile m_cut_w1 m_cut_b2 fuel [o0, o1, iO b, iO (a % b)] := by
    intro fuel a b h
    have hb : (0 : Int) < (b : Int) := by omega
    have tt : m_cut_w1 [o0, o1, iO a, iO b] = .ok true [o0, o1, iO a, iO b] := by
      unfold m_cut_w1
      simp?! only [hb]
    have bb : m_cut_b2 [o0, o1, iO a, iO b] = .ok .nx [o0, o1, iO b, iO (a % b)] := by
      unfold m_cut_b2
      simp?! only [gMod_int hb]
      rfl
    rw [v_wh, tt]
    simp?! only [bb, v_whn]
  intro e
  induction e with
  | zero =>
    intro fuel a b hb hf
    have : b = 0 := by simpa using hb
    subst this
    rw [Nat.gcd_zero_right]
    exact stop fuel a (by omega)
  | succ e ih =>
    intro fuel a b hb hf
    by_cases h0 : b = 0
    · subst h0
      rw [Nat.gcd_zero_right]
      exact stop fuel a (by omega)
    · have hp : 0 < b := by omega
      obtain ⟨f1, rfl⟩ : ∃ g, fuel = g + 1 := ⟨fuel - 1, by omega⟩
      rw [one f1 a b hp, Nat.gcd_comm a b, Nat.gcd_rec b a, Nat.gcd_comm (a % b) b]
      by_cases hr : a % b < 2 ^ e
      · exact ih f1 b (a % b) hr (by omega)
      · have hlt := Nat.mod_lt a hp
        have hr0 : 0 < a % b := Nat.lt_of_lt_of_le (Nat.two_pow_pos e) (by omega)
        obtain ⟨f2, rfl⟩ : ∃ g, f1 = g + 1 := ⟨f1 - 1, by omega⟩
        rw [one f2 b (a % b) hr0, Nat.gcd_comm b (a % b), Nat.gcd_rec (a % b) b, Nat.gcd_comm (b % (a % b)) (a % b)]
        refine ih f2 (a % b) (b % (a % b)) ?_ (by omega)
        have e1 : b % (a % b) ≤ b - a % b := by
          have h2 := Nat.div_add_mod b (a % b)
          have h3 : 1 ≤ b / (a % b) := (Nat.one_le_div_iff hr0).mpr (Nat.le_of_lt hlt)
          have h4 : a % b * 1 ≤ a % b * (b / (a % b)) := Nat.mul_le_mul_left _ h3
          omega
        have e2 : 2 ^ (e + 1) = 2 * 2 ^ e := by rw [Nat.pow_succ]; omega
        omega
def cutS (t : Nat × Nat) : Nat × Nat := (t.1 / Nat.gcd t.1 t.2, t.2 / Nat.gcd t.1 t.2)
def fr (t : Nat × Nat) : PyData := .tuple [.int (t.1 : Int), .int (t.2 : Int)]
theorem gcd_pos' {a b : Nat} (h : 0 < b) : 0 < Nat.gcd a b := Nat.gcd_pos_of_pos_right a h
theorem gcd_le' {a b : Nat} (h : 0 < b) : Nat.gcd a b ≤ b := Nat.le_of_dvd h (Nat.gcd_dvd_right a b)
theorem cut_ok {a b : Nat} (hb : 0 < b) (hl : b < 2 ^ 2000) : fn_cut [iO a, iO b] = .ok (.sh (fr (cutS (a, b)))) [none, none] := by
  have gp : (0 : Int) < ((Nat.gcd a b : Nat) : Int) := by have := gcd_pos' (a := a) hb; omega
  have gl : ((Nat.gcd a b : Nat) : Int).natAbs < 2 ^ 2000 := by rw [Int.natAbs_natCast]; exact Nat.lt_of_le_of_lt (gcd_le' hb) hl
  have f1 : gFloorW (.int (a : Int)) (.int ((Nat.gcd a b : Nat) : Int)) = some (.int ((a : Int) / ((Nat.gcd a b : Nat) : Int))) := gFloorW_int gp gl
  have f2 : gFloorW (.int (b : Int)) (.int ((Nat.gcd a b : Nat) : Int)) = some (.int ((b : Int) / ((Nat.gcd a b : Nat) : Int))) := gFloorW_int gp gl
  have lp := cut_loop (o0 := iO a) (o1 := iO b) 2000 5000 a b hl (by decide)
  unfold fn_cut m_cut
  simp?! only []
  rw [lp]
  simp?! only [f1, f2]
  rfl
theorem lowest_ok {a b : Nat} (hb : 0 < b) (hl : b < 2 ^ 2000) : fn_in_lowest_terms [iO a, iO b] = .ok (.sh (fr (cutS (a, b)))) [none, none] := by
  have gp : (0 : Int) < ((Nat.gcd a b : Nat) : Int) := by have := gcd_pos' (a := a) hb; omega
  have gl : ((Nat.gcd a b : Nat) : Int).natAbs < 2 ^ 2000 := by rw [Int.natAbs_natCast]; exact Nat.lt_of_le_of_lt (gcd_le' hb) hl
  have f1 : gFloorW (.int (a : Int)) (.int ((Nat.gcd a b : Nat) : Int)) = some (.int ((a : Int) / ((Nat.gcd a b : Nat) : Int))) := gFloorW_int gp gl
  have f2 : gFloorW (.int (b : Int)) (.int ((Nat.gcd a b : Nat) : Int)) = some (.int ((b : Int) / ((Nat.gcd a b : Nat) : Int))) := gFloorW_int gp gl
  have g1 : gGcd [.int (a : Int), .int (b : Int)] = some (.sh (.int ((Nat.gcd a b : Nat) : Int))) := by
    show some (OD.sh (PyData.int ((Nat.gcd (a : Int).natAbs (b : Int).natAbs : Nat) : Int))) = _
    rw [Int.natAbs_natCast, Int.natAbs_natCast]
  unfold fn_in_lowest_terms m_in_lowest_terms
  simp?! only [g1, f1, f2]
  rfl
/-! ### sums -/
def sumS (l : List (Nat × Nat)) (t : Nat × Nat) : Nat × Nat := l.foldl (fun t x => cutS (t.1 * x.2 + x.1 * t.2, t.2 * x.2)) t
theorem cutS_le (t : Nat × Nat) : (cutS t).1 ≤ t.1 ∧ (cutS t).2 ≤ t.2 := ⟨Nat.div_le_self _ _, Nat.div_le_self _ _⟩
theorem cutS_pos {t : Nat × Nat} (h : 0 < t.2) : 0 < (cutS t).2 := Nat.div_pos (gcd_le' h) (gcd_pos' h)
/-- what a turn asks -/
theorem turn_fine {c m : Nat} {t x : Nat × Nat} (ht : t.1 < 2 ^ m ∧ 0 < t.2 ∧ t.2 < 2 ^ m) (hx : x.1 < 2 ^ c ∧ 0 < x.2 ∧ x.2 < 2 ^ c) :
    let y := cutS (t.1 * x.2 + x.1 * t.2, t.2 * x.2); y.1 < 2 ^ (m + c + 1) ∧ 0 < y.2 ∧ y.2 < 2 ^ (m + c + 1) := by
  intro y
  have a1 : t.1 * x.2 < 2 ^ (m + c) := by rw [Nat.pow_add]; exact Nat.mul_lt_mul'' ht.1 hx.2.2
  have a2 : x.1 * t.2 < 2 ^ (m + c) := by rw [Nat.pow_add, Nat.mul_comm (2 ^ m)]; exact Nat.mul_lt_mul'' hx.1 ht.2.2
  have a3 : t.2 * x.2 < 2 ^ (m + c) := by rw [Nat.pow_add]; exact Nat.mul_lt_mul'' ht.2.2 hx.2.2
  have e : 2 ^ (m + c + 1) = 2 * 2 ^ (m + c) := by rw [Nat.pow_succ]; omega
  obtain ⟨l1, l2⟩ := cutS_le (t.1 * x.2 + x.1 * t.2, t.2 * x.2)
  refine ⟨Nat.lt_of_le_of_lt l1 (by dsimp only; omega), cutS_pos (Nat.mul_pos ht.2.1 hx.2.1), Nat.lt_of_le_of_lt l2 (by dsimp only; omega)⟩
theorem nat_mul (a b : Nat) (c : Nat) (ha : a < 2 ^ c) (hb : b < 2 ^ c) (h0 : 0 < c) (hc : c ≤ 400000) : aMulT (.int (a : Int)) (.int (b : Int)) = some (.sh (.int ((a * b : Nat) : Int))) := by
  have := aMulT_int (i := (a : Int)) (j := (b : Int)) (a := c) (b := c) (by rw [Int.natAbs_natCast]; exact ha) (by rw [Int.natAbs_natCast]; exact hb) ⟨h0, hc⟩ ⟨h0, hc⟩
  rw [this, Int.natCast_mul]
theorem nat_add (a b : Nat) : aAdd (.int (a : Int)) (.int (b : Int)) = some (.sh (.int ((a + b : Nat) : Int))) := by
  rw [aAdd_int, Int.natCast_add]
theorem sum_turn {c m : Nat} {o0 : Option OD} {t x : Nat × Nat} (ht : t.1 < 2 ^ m ∧ 0 < t.2 ∧ t.2 < 2 ^ m) (hx : x.1 < 2 ^ c ∧ 0 < x.2 ∧ x.2 < 2 ^ c) (hm : m + c ≤ 2000) :
    m_fraction_sum_b1 [o0, some (.sh (fr t)), iO x.1, iO x.2] = .ok .nx [o0, some (.sh (fr (cutS (t.1 * x.2 + x.1 * t.2, t.2 * x.2)))), iO x.1, iO x.2] ∧
    m_total_b1 [o0, some (.sh (fr t)), iO x.1, iO x.2] = .ok .nx [o0, some (.sh (fr (cutS (t.1 * x.2 + x.1 * t.2, t.2 * x.2)))), iO x.1, iO x.2] := by
  have up : ∀ {z k : Nat}, k ≤ 2000 → z < 2 ^ k → z < 2 ^ 2000 := fun h h2 => Nat.lt_of_lt_of_le h2 (Nat.pow_le_pow_right (by decide) h)
  have p1 := nat_mul t.1 x.2 2000 (up (by omega) ht.1) (up (by omega) hx.2.2) (by decide) (by decide)
  have p2 := nat_mul x.1 t.2 2000 (up (by omega) hx.1) (up (by omega) ht.2.2) (by decide) (by decide)
  have p3 := nat_mul t.2 x.2 2000 (up (by omega) ht.2.2) (up (by omega) hx.2.2) (by decide) (by decide)
  have a3 : t.2 * x.2 < 2 ^ (m + c) := by rw [Nat.pow_add]; exact Nat.mul_lt_mul'' ht.2.2 hx.2.2
  have hb : 0 < t.2 * x.2 := Nat.mul_pos ht.2.1 hx.2.1
  have l1 := lowest_ok (a := t.1 * x.2 + x.1 * t.2) hb (up hm a3)
  have l2 := cut_ok (a := t.1 * x.2 + x.1 * t.2) hb (up hm a3)
  have ad := nat_add (t.1 * x.2) (x.1 * t.2)
  constructor
  · unfold m_fraction_sum_b1
    unfold fr at *
    simp?! only [p1, p2, p3, ad, l1]
  · unfold m_total_b1
    unfold fr at *
    simp?! only [p1, p2, p3, ad, l2]
theorem sum_loop {c : Nat} {o0 : Option OD} : ∀ (l : List (Nat × Nat)) (m : Nat) (t : Nat × Nat) (o2 o3 : Option OD), (t.1 < 2 ^ m ∧ 0 < t.2 ∧ t.2 < 2 ^ m) → (∀ x ∈ l, x.1 < 2 ^ c ∧ 0 < x.2 ∧ x.2 < 2 ^ c) → m + (c + 1) * l.length ≤ 2000 →
    (∃ b2 b3, sLoop (tTup [tName 2, tName 3]) m_fraction_sum_b1 (l.map fr) [o0, some (.sh (fr t)), o2, o3] = .ok .nx [o0, some (.sh (fr (sumS l t))), b2, b3]) ∧
    (∃ b2 b3, sLoop (tTup [tName 2, tName 3]) m_total_b1 (l.map fr) [o0, some (.sh (fr t)), o2, o3] = .ok .nx [o0, some (.sh (fr (sumS l t))), b2, b3])
  | [], m, t, o2, o3, _, _, _ => ⟨⟨o2, o3, rfl⟩, ⟨o2, o3, rfl⟩⟩
  | x :: l, m, t, o2, o3, ht, hx, hm => by
    have e : (c + 1) * (l.length + 1) = (c + 1) * l.length + (c + 1) := by rw [Nat.mul_add, Nat.mul_one]
    rw [List.length_cons, e] at hm
    have fx := hx x List.mem_cons_self
    obtain ⟨e1, e2⟩ := sum_turn (o0 := o0) ht fx (by omega)
    have tf := turn_fine ht fx
    obtain ⟨⟨b2, b3, i1⟩, ⟨b2', b3', i2⟩⟩ := sum_loop (c := c) (o0 := o0) l (m + c + 1) _ (iO x.1) (iO x.2) tf (fun y hy => hx y (List.mem_cons_of_mem _ hy)) (by omega)
    have tg : ∀ o : Option OD, tTup [tName 2, tName 3] (fr x) [o0, o, o2, o3] = some [o0, o, iO x.1, iO x.2] := fun _ => rfl
    refine ⟨⟨b2, b3, ?_⟩, ⟨b2', b3', ?_⟩⟩
    · rw [List.map_cons, v_lp1, tg, v_lpO, e1, v_lpn, i1]
      rfl
    · rw [List.map_cons, v_lp1, tg, v_lpO, e2, v_lpn, i2]
      rfl
def frs (l : List (Nat × Nat)) : PyData := .tuple (l.map fr)
theorem sum_ok {c : Nat} {l : List (Nat × Nat)} (hx : ∀ x ∈ l, x.1 < 2 ^ c ∧ 0 < x.2 ∧ x.2 < 2 ^ c) (hm : 1 + (c + 1) * l.length ≤ 2000) :
    fn_fraction_sum [some (.sh (frs l))] = .ok (.sh (fr (sumS l (0, 1)))) [none] ∧ fn_total [some (.sh (frs l))] = .ok (.sh (fr (sumS l (0, 1)))) [none] := by
  have h01 : (PyData.tuple [.int 0, .int 1]) = fr (0, 1) := rfl
  obtain ⟨⟨b2, b3, i1⟩, ⟨b2', b3', i2⟩⟩ := sum_loop (c := c) (o0 := some (.sh (frs l))) l 1 (0, 1) none none (by decide) hx hm
  constructor
  · unfold fn_fraction_sum m_fraction_sum
    unfold frs at *
    simp?! only [h01]
    rw [i1]
    simp?! only []
  · unfold fn_total m_total
    unfold frs at *
    simp?! only [h01]
    rw [i2]
    simp?! only []
theorem less_ok {x y : Nat × Nat} (hx : x.1 < 2 ^ 300 ∧ x.2 < 2 ^ 300) (hy : y.1 < 2 ^ 300 ∧ y.2 < 2 ^ 300) : fn_is_less [some (.sh (fr x)), some (.sh (fr y))] = .ok (.sh (.bool (decide (((x.1 * y.2 : Nat) : Int) < ((y.1 * x.2 : Nat) : Int))))) [none, none] := by
  have p1 := nat_mul x.1 y.2 300 hx.1 hy.2 (by decide) (by decide)
  have p2 := nat_mul y.1 x.2 300 hy.1 hx.2 (by decide) (by decide)
  unfold fn_is_less m_is_less fr
  simp?! only [p1, p2]
end Lw
set_option exponentiation.threshold 10000
namespace Lw
open PySem L2 PySem.W PySem.SeqAt Eg
theorem is_count_any {q n k : Nat} {d : PyData} (h : Th q n k d) : fn_is_count [some (.sh d)] = .ok (.sh (.bool (isCount d))) [none] := by
  cases d with
  | int i => exact is_count_int i
  | dict kvs => have := h.g; simp [good] at this
  | _ => unfold fn_is_count m_is_count isCount; simp?! only []
def isInt : PyData → Bool
  | .int _ => true
  | _ => false
theorem is_number_any {q n k : Nat} {d : PyData} (h : Th q n k d) : fn_is_number [some (.sh d)] = .ok (.sh (.bool (isInt d))) [none] := by
  cases d with
  | dict kvs => have := h.g; simp [good] at this
  | _ => unfold fn_is_number m_is_number isInt; simp?! only []
theorem is_tuple_any {q n k : Nat} {d : PyData} (h : Th q n k d) (m : Int) : fn_is_tuple_of [some (.sh d), some (.sh (.int m))] = .ok (.sh (.bool (match d with | .tuple ds => decide ((ds.length : Int) = m) | _ => false))) [none, none] := by
  cases d with
  | dict kvs => have := h.g; simp [good] at this
  | _ => unfold fn_is_tuple_of m_is_tuple_of; simp?! only []
def isFr : PyData → Bool
  | .tuple [.int a, .int b] => decide (0 ≤ a) && (decide (0 < b) && decide (Nat.gcd a.natAbs b.natAbs = 1))
  | _ => false
theorem pow400 {x m : Nat} (h : x < 10 ^ m) (hm : m ≤ 400) : x < 2 ^ 2000 := Nat.lt_of_lt_of_le h (Nat.le_trans (Nat.pow_le_pow_right (by decide) hm) (by decide +kernel))
theorem is_fraction_any {q n k : Nat} {d : PyData} (h : Th q n k d) : fn_is_fraction [some (.sh d)] = .ok (.sh (.bool (isFr d))) [none] := by
  have e0 := is_tuple_any h 2
  match d, h with
  | .tuple [a, b], h =>
    have ha := is_count_any (h.ofTup.2.2.mem (d := a) (by simp))
    have hb := is_count_any (h.ofTup.2.2.mem (d := b) (by simp))
    have e0 : fn_is_tuple_of [some (.sh (.tuple [a, b])), some (.sh (.int 2))] = .ok (.sh (.bool true)) [none, none] := e0
    unfold fn_is_fraction m_is_fraction
    cases ca : isCount a with
    | false =>
      rw [ca] at ha
      have : isFr (.tuple [a, b]) = false := by
        cases a <;> first | rfl | (cases b <;> first | rfl | (simp only [isCount, decide_eq_false_iff_not] at ca; simp [isFr]; intro z; exact absurd z ca))
      rw [this]
      simp?! only [e0, ha]
    | true =>
      rw [ca] at ha
      obtain ⟨i, rfl, hi⟩ : ∃ i, a = .int i ∧ 0 ≤ i := by
        cases a <;> simp only [isCount] at ca <;> first | exact ⟨_, rfl, of_decide_eq_true ca⟩ | cases ca
      cases cb : isCount b with
      | false =>
        rw [cb] at hb
        have : isFr (.tuple [.int i, b]) = false := by
          cases b <;> first | rfl | (simp only [isCount, decide_eq_false_iff_not] at cb; simp [isFr]; intro _ z; omega)
        rw [this]
        simp?! only [e0, ha, hb]
      | true =>
        rw [cb] at hb
        obtain ⟨j, rfl, hj⟩ : ∃ j, b = .int j ∧ 0 ≤ j := by
          cases b <;> simp only [isCount] at cb <;> first | exact ⟨_, rfl, of_decide_eq_true cb⟩ | cases cb
        have gg : gGcd [.int i, .int j] = some (.sh (.int ((Nat.gcd i.natAbs j.natAbs : Nat) : Int))) := rfl
        have ge : (((Nat.gcd i.natAbs j.natAbs : Nat) : Int) = 1) = (Nat.gcd i.natAbs j.natAbs = 1) := by apply propext; omega
        have : isFr (.tuple [.int i, .int j]) = (decide (0 < j) && decide (Nat.gcd i.natAbs j.natAbs = 1)) := by
          simp only [isFr, decide_eq_true hi, Bool.true_and]
        rw [this]
        cases cj : decide (0 < j) with
        | false => simp?! only [e0, ha, hb, cj]
        | true => simp?! only [e0, ha, hb, cj, gg, ge]
  | .tuple [], h => unfold fn_is_fraction m_is_fraction isFr; simp?! only [e0]; rfl
  | .tuple [a], h => unfold fn_is_fraction m_is_fraction isFr; simp?! only [e0]; rfl
  | .tuple (a :: b :: c :: ds), h =>
    have : decide ((((a :: b :: c :: ds).length : Nat) : Int) = 2) = false := by simp; omega
    simp only [this] at e0
    unfold fn_is_fraction m_is_fraction isFr
    simp?! only [e0]
  | .none, h => unfold fn_is_fraction m_is_fraction isFr; simp?! only [e0]
  | .bool _, h => unfold fn_is_fraction m_is_fraction isFr; simp?! only [e0]
  | .int _, h => unfold fn_is_fraction m_is_fraction isFr; simp?! only [e0]
  | .str _, h => unfold fn_is_fraction m_is_fraction isFr; simp?! only [e0]
  | .list _, h => unfold fn_is_fraction m_is_fraction isFr; simp?! only [e0]
  | .dict _, h => have := h.g; simp [good] at this
theorem eqv_ii (a b c d : Int) : gEq (.tuple [.int a, .int b]) (.tuple [.int c, .int d]) = some (.bool (decide (a = c) && decide (b = d))) := by
  simp [gEq, small, PyData.depth, PyData.depthAll, PyData.eqv, PyData.eqvAll]
  rfl
theorem own_is_fraction_any {q n k : Nat} {d : PyData} (h : Th q n k d) : fn_own_is_fraction [some (.sh d)] = .ok (.sh (.bool (isFr d))) [none] := by
  match d, h with
  | .tuple [a, b], h =>
    have ta := h.ofTup.2.2.mem (d := a) (by simp)
    have tb := h.ofTup.2.2.mem (d := b) (by simp)
    have ha := is_number_any ta
    have hb := is_number_any tb
    have l2 : decide (((([a, b] : List PyData).length : Nat) : Int) ≠ 2) = false := rfl
    unfold fn_own_is_fraction m_own_is_fraction
    cases ca : isInt a with
    | false =>
      rw [ca] at ha
      have : isFr (.tuple [a, b]) = false := by cases a <;> first | rfl | cases ca
      rw [this]
      simp?! only [l2, ha]
    | true =>
      rw [ca] at ha
      obtain ⟨i, rfl⟩ : ∃ i, a = .int i := by cases a <;> first | exact ⟨_, rfl⟩ | cases ca
      cases cb : isInt b with
      | false =>
        rw [cb] at hb
        have : isFr (.tuple [.int i, b]) = false := by cases b <;> first | rfl | cases cb
        rw [this]
        simp?! only [l2, ha, hb]
      | true =>
        rw [cb] at hb
        obtain ⟨j, rfl⟩ : ∃ j, b = .int j := by cases b <;> first | exact ⟨_, rfl⟩ | cases cb
        have gi := ta.g
        have gj := tb.g
        rw [good] at gi gj
        have gi := pow400 (of_decide_eq_true gi) h.m
        have gj := pow400 (of_decide_eq_true gj) h.m
        simp only [isFr]
        cases ci : decide (0 ≤ i) with
        | false => simp?! only [l2, ha, hb, ci]
        | true =>
          cases cj : decide (0 < j) with
          | false => simp?! only [l2, ha, hb, ci, cj]
          | true =>
            have hi := of_decide_eq_true ci
            have hj := of_decide_eq_true cj
            obtain ⟨x, rfl⟩ : ∃ x : Nat, i = (x : Int) := ⟨i.toNat, by omega⟩
            obtain ⟨y, rfl⟩ : ∃ y : Nat, j = (y : Int) := ⟨j.toNat, by omega⟩
            rw [Int.natAbs_natCast] at gi gj
            have hy : 0 < y := by omega
            have cu := cut_ok (a := x) (b := y) hy gj
            have ee : (decide (((cutS (x, y)).1 : Int) = (x : Int)) && decide (((cutS (x, y)).2 : Int) = (y : Int))) = decide (Nat.gcd x y = 1) := by
              by_cases g1 : Nat.gcd x y = 1
              · simp [cutS, g1]
              · have gp := gcd_pos' (a := x) hy
                have : ¬ y / Nat.gcd x y = y := by
                  intro z
                  have := Nat.div_lt_self hy (show 1 < Nat.gcd x y by omega)
                  omega
                have n2 : ¬ ((cutS (x, y)).2 : Int) = (y : Int) := by show ¬ ((y / Nat.gcd x y : Nat) : Int) = (y : Int); omega
                rw [decide_eq_false n2, decide_eq_false g1, Bool.and_false]
            have eq := eqv_ii (cutS (x, y)).1 (cutS (x, y)).2 x y
            rw [ee] at eq
            unfold fr at cu
            simp?! only [l2, ha, hb, ci, cj, cu, eq, Int.natAbs_natCast]
  | .tuple [], h =>
    have l2 : decide (((([] : List PyData).length : Nat) : Int) ≠ 2) = true := rfl
    unfold fn_own_is_fraction m_own_is_fraction isFr; simp?! only [l2]
  | .tuple [a], h =>
    have l2 : decide (((([a] : List PyData).length : Nat) : Int) ≠ 2) = true := rfl
    unfold fn_own_is_fraction m_own_is_fraction isFr; simp?! only [l2]
  | .tuple (a :: b :: c :: ds), h =>
    have l2 : decide ((((a :: b :: c :: ds).length : Nat) : Int) ≠ 2) = true := by simp; omega
    unfold fn_own_is_fraction m_own_is_fraction isFr
    simp?! only [l2]
  | .none, h => unfold fn_own_is_fraction m_own_is_fraction isFr; simp?! only []
  | .bool _, h => unfold fn_own_is_fraction m_own_is_fraction isFr; simp?! only []
  | .int _, h => unfold fn_own_is_fraction m_own_is_fraction isFr; simp?! only []
  | .str _, h => unfold fn_own_is_fraction m_own_is_fraction isFr; simp?! only []
  | .list _, h => unfold fn_own_is_fraction m_own_is_fraction isFr; simp?! only []
  | .dict _, h => have := h.g; simp [good] at this
end Lw
namespace Lw
open PySem L2 PySem.W PySem.SeqAt Eg
abbrev Told := Str × Int × Int
def td (t : Told) : PyData := .tuple [.str t.1, .int t.2.1, .int t.2.2]
def newsD (l : List Told) : PyData := .tuple (l.map td)
def tlt (x y : Told) : Bool := dataLt (td x) (td y)
def tmax (x y : Told) : Told := if tlt x y = true then y else x
theorem toks_td (t : Told) : keyToks (td t) = [.inl 1, .inr t.1.cps.toList, .inl 1, .inl t.2.1, .inl 1, .inl t.2.2, .inl 0] := by
  simp [td, keyToks, keyToksAll]
theorem td_inj {x y : Told} (e : keyToks (td x) = keyToks (td y)) : x = y := by
  rw [toks_td, toks_td] at e
  simp only [List.cons.injEq, Sum.inr.injEq, Sum.inl.injEq, true_and, and_true] at e
  exact Prod.ext (str_of_cps e.1) (Prod.ext e.2.1 e.2.2)
theorem td_alike (x y : Told) : alike (td x) (td y) = true := by simp [td, alike, alikeAll]
theorem td_small (x : Told) : small (td x) = true := by simp [td, small, PyData.depth, PyData.depthAll]
theorem tlt_tri {x y : Told} (h : tlt x y = false) (h2 : tlt y x = false) : x = y := td_inj ((PyProof.Rows.listOrd PyProof.Rows.itemOrd).total _ _ h h2)
theorem tlt_trans {x y z : Told} (h : tlt x y = true) (h2 : tlt y z = true) : tlt x z = true := (PyProof.Rows.listOrd PyProof.Rows.itemOrd).trans (keyToks (td x)) (keyToks (td y)) (keyToks (td z)) h h2
theorem tlt_self (x : Told) : tlt x x = false := (PyProof.Rows.listOrd PyProof.Rows.itemOrd).irrefl (keyToks (td x))
theorem tmax_comm (x y : Told) : tmax x y = tmax y x := by
  unfold tmax
  cases h : tlt x y <;> cases h2 : tlt y x
  · exact tlt_tri h h2
  · rfl
  · rfl
  · have := tlt_trans h h2
    rw [tlt_self] at this; cases this
theorem tmax_assoc (x y z : Told) : tmax (tmax x y) z = tmax x (tmax y z) := by
  unfold tmax
  cases h : tlt x y <;> cases h2 : tlt y z <;> simp [h, h2]
  · cases h3 : tlt x z with
    | false => intro q; cases q
    | true =>
      intro _
      cases h4 : tlt y x with
      | true => have := tlt_trans h4 h3; rw [h2] at this; cases this
      | false => have := tlt_tri h h4; subst this; rw [h2] at h3; cases h3
  · have := tlt_trans h h2
    simp [this]
theorem tmax_self (x : Told) : tmax x x = x := by unfold tmax; rw [tlt_self]; rfl
theorem gMax_td (x y : Told) : gMax [td x, td y] = some (.sh (td (tmax x y))) := by
  have p : pairOk (td x) (td y) = true := by simp [pairOk, td_alike, td_small]; exact ⟨rfl, rfl⟩
  simp only [gMax]
  rw [if_pos ⟨p, rfl, rfl⟩]
  unfold tmax tlt
  split <;> rfl
def together (xs ys : List Told) : List Told := List.zipWith tmax xs ys
theorem together_ok {xs ys : List Told} (h : xs.length ≤ 1000) : fn_heard_together [some (.sh (newsD xs)), some (.sh (newsD ys))] = .ok (.sh (newsD (together xs ys))) [none, none] := by
  have z := sizeLine_eq
  have hc : mComp ((mName 0).bind fun x => (mName 1).bind fun y => M.lift (zipD x y)) (tTup [tName 2, tName 3]) (M.ret true) m_heard_together_e1 [2, 3] [some (.sh (newsD xs)), some (.sh (newsD ys)), none, none] =
      .ok (.ol ((xs.zip ys).map fun p => td (tmax p.1 p.2))) [some (.sh (newsD xs)), some (.sh (newsD ys)), none, none] := by
    refine comp_pure (f := fun p : Told × Told => PyData.tuple [td p.1, td p.2]) (fun p => td (tmax p.1 p.2)) ?_ ?_ fun p hp => ⟨[some (.sh (newsD xs)), some (.sh (newsD ys)), some (.sh (td p.1)), some (.sh (td p.2))], [some (.sh (newsD xs)), some (.sh (newsD ys)), some (.sh (td p.1)), some (.sh (td p.2))], rfl, ?_, rfl⟩
    · have e : zipD (newsD xs) (newsD ys) = some ((xs.zip ys).map fun p => .tuple [td p.1, td p.2]) := by
        show some _ = _
        rw [zipWith_map_zip, List.zip_map, List.map_map]
        rfl
      simp! only [e]
    · rw [List.length_zip]; omega
    · have g := gMax_td p.1 p.2
      unfold m_heard_together_e1
      simp! only [g]
  have e2 : (xs.zip ys).map (fun p => td (tmax p.1 p.2)) = (together xs ys).map td := by
    unfold together
    rw [zipWith_map_zip, List.map_map]
    rfl
  rw [e2] at hc
  unfold fn_heard_together m_heard_together
  simp! only [hc]
  rfl
theorem greater_eq : fn_greater = fn_heard_together := rfl
/-- a HEARD of these towns -/
def Good (ts : List Str) (l : List Told) : Prop := l.map (·.1) = ts ∧ ∀ t ∈ l, 0 ≤ t.2.1 ∧ t.2.1 ≤ 10000000000 ∧ 0 ≤ t.2.2 ∧ t.2.2 ≤ 100000
theorem Good.len {ts : List Str} {l : List Told} (h : Good ts l) : l.length = ts.length := by rw [← h.1, List.length_map]
theorem together_comm (xs ys : List Told) : together xs ys = together ys xs := List.zipWith_comm_of_comm tmax_comm
theorem together_assoc : ∀ xs ys zs : List Told, together (together xs ys) zs = together xs (together ys zs)
  | [], _, _ => by simp [together]
  | x :: xs, [], _ => by simp [together]
  | x :: xs, y :: ys, [] => by simp [together]
  | x :: xs, y :: ys, z :: zs => by
    have := together_assoc xs ys zs
    unfold together at this ⊢
    simp only [List.zipWith_cons_cons, tmax_assoc, this]
theorem together_self : ∀ xs : List Told, together xs xs = xs
  | [] => rfl
  | x :: xs => by
    have := together_self xs
    unfold together at this ⊢
    simp only [List.zipWith_cons_cons, tmax_self, this]
theorem Good.together {ts : List Str} : ∀ {xs ys : List Told}, Good ts xs → Good ts ys → Good ts (together xs ys) := by
  induction ts with
  | nil =>
    intro xs ys h h2
    have e : xs = [] := List.map_eq_nil_iff.mp h.1
    subst e
    exact ⟨rfl, fun t ht => by cases ht⟩
  | cons t ts ih =>
    intro xs ys h h2
    cases xs with
    | nil => have := h.len; simp at this
    | cons x xs =>
      cases ys with
      | nil => have := h2.len; simp at this
      | cons y ys =>
        have i1 : Good ts xs := ⟨(List.cons.inj h.1).2, fun t ht => h.2 t (List.mem_cons_of_mem _ ht)⟩
        have i2 : Good ts ys := ⟨(List.cons.inj h2.1).2, fun t ht => h2.2 t (List.mem_cons_of_mem _ ht)⟩
        have i := ih i1 i2
        have e1 : x.1 = t := (List.cons.inj h.1).1
        have e2 : y.1 = t := (List.cons.inj h2.1).1
        have em : tmax x y = x ∨ tmax x y = y := by unfold tmax; split <;> simp
        refine ⟨?_, fun u hu => ?_⟩
        · show (tmax x y).1 :: (Lw.together xs ys).map (·.1) = _
          rw [i.1]
          rcases em with e | e <;> rw [e] <;> simp [e1, e2]
        · rcases List.mem_cons.mp hu with rfl | hu
          · rcases em with e | e
            · rw [e]; exact h.2 _ List.mem_cons_self
            · rw [e]; exact h2.2 _ List.mem_cons_self
          · exact i.2 u hu
theorem td_fd {t : Told} (hs : StrF t.1) (h : 0 ≤ t.2.1 ∧ t.2.1 ≤ 10000000000 ∧ 0 ≤ t.2.2 ∧ t.2.2 ≤ 100000) : Fd 69 1 (td t) :=
  Fd.tuple (n := 20) (k := 0) (m := 3) (all3 (Fd.str hs) ((Fd.int (n := 15) (by omega)).mono (by decide) (by decide)) ((Fd.int (n := 15) (by omega)).mono (by decide) (by decide))) (Nat.le_refl 3)
theorem five_fine : ∀ x ∈ five, StrF x := by decide +kernel
theorem Good.fd {ts : List Str} {l : List Told} (h : Good ts l) (hs : List.Sublist ts five) : Fd 358 2 (newsD l) :=
  Fd.tuple (n := 69) (k := 1) (m := 5) (allM fun t ht => td_fd (five_fine _ (hs.mem (by rw [← h.1]; exact List.mem_map_of_mem ht))) (h.2 t ht)) (by rw [List.length_map, h.len]; exact hs.length_le)
theorem five_word : ∀ x ∈ five, wordB x = true ∧ x.length ≤ sizeLine := by decide +kernel
theorem adj_sub : ∀ {us ts : List Str}, List.Sublist us ts → adj (ts.map .str) = true → (∀ x ∈ ts, ∀ y ∈ ts, ∀ z ∈ ts, dataLt (.str x) (.str y) = true → dataLt (.str y) (.str z) = true → dataLt (.str x) (.str z) = true) → adj (us.map .str) = true := by
  intro us ts h
  have key : ∀ ts : List Str, adj (ts.map .str) = true → ts.Pairwise (fun x y => dataLt (.str x) (.str y) = true) := by
    intro ts
    induction ts with
    | nil => intro _; exact .nil
    | cons x ts ih =>
      intro h
      cases ts with
      | nil => exact List.pairwise_singleton _ _
      | cons y ts =>
        simp only [List.map_cons, adj, Bool.and_eq_true] at h
        have p := ih h.2
        refine List.pairwise_cons.mpr ⟨fun z hz => ?_, p⟩
        rcases List.mem_cons.mp hz with rfl | hz
        · exact h.1
        · exact (PyProof.Rows.listOrd PyProof.Rows.itemOrd).trans (keyToks (.str x)) (keyToks (.str y)) (keyToks (.str z)) h.1 ((List.pairwise_cons.mp p).1 z hz)
  have back : ∀ us : List Str, us.Pairwise (fun x y => dataLt (.str x) (.str y) = true) → adj (us.map .str) = true := by
    intro us
    induction us with
    | nil => intro _; rfl
    | cons x us ih =>
      intro p
      cases us with
      | nil => rfl
      | cons y us =>
        obtain ⟨p1, p2⟩ := List.pairwise_cons.mp p
        simp only [List.map_cons, adj, Bool.and_eq_true]
        exact ⟨p1 y List.mem_cons_self, ih p2⟩
  exact fun a _ => back us ((key ts a).sublist h)
theorem five_adj : adj (five.map .str) = true := by decide +kernel
theorem ts_adj {ts : List Str} (hs : List.Sublist ts five) : adj (ts.map .str) = true := adj_sub hs five_adj fun x _ y _ z _ h h2 => (PyProof.Rows.listOrd PyProof.Rows.itemOrd).trans (keyToks (.str x)) (keyToks (.str y)) (keyToks (.str z)) h h2
/-! ### is_heard -/
theorem is_tuple_ok (ds : List PyData) (n : Int) : fn_is_tuple_of [some (.sh (.tuple ds)), some (.sh (.int n))] = .ok (.sh (.bool (decide ((ds.length : Int) = n)))) [none, none] := by
  unfold fn_is_tuple_of m_is_tuple_of
  simp! only []
theorem told_rise_ok {t : Told} (h : wordB t.1 = true) (hl : t.1.length ≤ sizeLine) (h2 : 0 ≤ t.2.1) (h3 : 0 ≤ t.2.2) : fn_is_told_rise [some (.sh (td t))] = .ok (.sh (.bool true)) [none] := by
  have e1 := is_tuple_ok [.str t.1, .int t.2.1, .int t.2.2] 3
  have e2 := is_word_str hl
  have e3 := is_count_int t.2.1
  have e4 := is_count_int t.2.2
  rw [h] at e2
  rw [decide_eq_true h2] at e3
  rw [decide_eq_true h3] at e4
  rw [show decide (([PyData.str t.1, .int t.2.1, .int t.2.2].length : Int) = 3) = true from rfl] at e1
  unfold fn_is_told_rise m_is_told_rise td
  simp! only [e1, e2, e3, e4]
theorem is_heard_ok {ts : List Str} {l : List Told} (hs : List.Sublist ts five) (h1 : 1 ≤ ts.length) (h : Good ts l) : fn_is_heard [some (.sh (newsD l))] = .ok (.sh (.bool true)) [none] := by
  have z := sizeLine_eq
  have hl := h.len
  have h5 : ts.length ≤ 5 := hs.length_le
  have hw : ∀ t ∈ l, wordB t.1 = true ∧ t.1.length ≤ sizeLine := fun t ht => five_word _ (hs.mem (by rw [← h.1]; exact List.mem_map_of_mem ht))
  have c1 : mComp ((mName 0).bind seqItems) (tName 1) (M.ret true) m_is_heard_e1 [1] [some (.sh (newsD l)), none] = .ok (.ol (l.map fun t => .bool true)) [some (.sh (newsD l)), none] := by
    refine comp_pure (f := td) (fun _ => .bool true) (by unfold newsD; simp! only []) (by omega) fun t ht => ⟨[some (.sh (newsD l)), some (.sh (td t))], [some (.sh (newsD l)), some (.sh (td t))], rfl, ?_, rfl⟩
    have := told_rise_ok (hw t ht).1 (hw t ht).2 (h.2 t ht).1 (h.2 t ht).2.2.1
    unfold m_is_heard_e1
    simp! only [this]
  have c2 : mComp ((mName 0).bind seqItems) (tName 1) (M.ret true) m_is_heard_e2 [1] [some (.sh (newsD l)), none] = .ok (.ol (l.map fun t => .str t.1)) [some (.sh (newsD l)), none] := by
    refine comp_pure (f := td) (fun t => .str t.1) (by unfold newsD; simp! only []) (by omega) fun t ht => ⟨[some (.sh (newsD l)), some (.sh (td t))], [some (.sh (newsD l)), some (.sh (td t))], rfl, ?_, rfl⟩
    unfold m_is_heard_e2 td
    simp! only []
  have ga := gAll_map (fun _ : Told => true) l
  rw [List.all_eq_true.mpr fun _ _ => rfl] at ga
  have em : l.map (fun t => PyData.str t.1) = ts.map .str := by rw [← h.1, List.map_map]; rfl
  rw [em] at c2
  have er : fn_rises [some (.sh (.list (ts.map .str)))] = .ok (.sh (.bool (adj (ts.map .str)))) [none] := rises_ok (by rw [List.length_map]; omega) (fun x hx y hy => by
    obtain ⟨a, _, rfl⟩ := List.mem_map.mp hx
    obtain ⟨b, _, rfl⟩ := List.mem_map.mp hy
    exact ⟨by simp [alike], rfl, by simp [small, PyData.depth]⟩)
  rw [ts_adj hs] at er
  have ne : (!(l.map td).isEmpty) = true := by cases l with
    | nil => simp at hl; omega
    | cons a l => rfl
  unfold fn_is_heard m_is_heard
  unfold newsD at c1 c2 ⊢
  simp! only [ne, c1, ga, c2, er]
end Lw
namespace Lw
open PySem L2 PySem.W PySem.SeqAt Eg
/-! ## looks at any thing -/
def isWord : PyData → Bool
  | .str x => wordB x
  | _ => false
def isTup (m : Nat) : PyData → Bool
  | .tuple ds => decide (ds.length = m)
  | _ => false
theorem isTup_at {m : Nat} {d : PyData} (h : isTup m d = true) : ∃ ds, d = .tuple ds ∧ ds.length = m := by
  cases d <;> simp [isTup] at h
  exact ⟨_, rfl, h⟩
theorem _root_.Eg.Th.strLen {q n k : Nat} {x : Str} (h : Th q n k (.str x)) (hn : n ≤ 1000000) : x.length ≤ sizeLine := by
  have z := sizeLine_eq
  have h1 := h.w
  rw [wt, PyData.shown] at h1
  omega
theorem is_word_any {q n k : Nat} {d : PyData} (h : Th q n k d) (hn : n ≤ 1000000) : fn_is_word [some (.sh d)] = .ok (.sh (.bool (isWord d))) [none] := by
  cases d with
  | str x => exact is_word_str (h.strLen hn)
  | dict kvs => have := h.g; simp [good] at this
  | _ => unfold fn_is_word m_is_word isWord; simp?! only []
theorem is_tup_any {q n k : Nat} {d : PyData} (h : Th q n k d) (m : Nat) : fn_is_tuple_of [some (.sh d), some (.sh (.int (m : Int)))] = .ok (.sh (.bool (isTup m d))) [none, none] := by
  rw [is_tuple_any h]
  cases d with
  | tuple ds =>
    have : (((ds.length : Nat) : Int) = (m : Int)) = (ds.length = m) := by apply propext; omega
    simp only [isTup, this]
  | _ => rfl
theorem own_word_any {q n k : Nat} {d : PyData} (h : Th q n k d) (hn : n ≤ 1000000) : fn_word [some (.sh d)] = .ok (.sh (.bool (isWord d))) [none] := by
  cases d with
  | str x =>
    have hl := h.strLen hn
    have lx : x.cps.toList.length = x.length := by simp [Str.length]
    have hc : mComp ((mName 0).bind txtItems) (tName 1) m_word_t2 m_word_e1 [1] [some (.sh (.str x)), none] = .ok (.ol ((x.cps.toList.filter fun c => !(decide (97 ≤ c) && decide (c ≤ 122))).map fun c => .str ⟨#[c]⟩)) [some (.sh (.str x)), none] := by
      refine comp_filt (f := fun c => PyData.str ⟨#[c]⟩) (fun c => !(decide (97 ≤ c) && decide (c ≤ 122))) (fun c => .str ⟨#[c]⟩) (by simp?! only []; rfl) (by rw [lx]; exact hl) fun c _ => ⟨[some (.sh (.str x)), some (.sh (.str ⟨#[c]⟩))], [some (.sh (.str x)), some (.sh (.str ⟨#[c]⟩))], rfl, ?_, rfl, fun _ => ⟨[some (.sh (.str x)), some (.sh (.str ⟨#[c]⟩))], ?_, rfl⟩⟩
      · have g1 := gLe_str "a" ⟨#[c]⟩
        have g2 := gLe_str ⟨#[c]⟩ "z"
        rw [show (⟨#[c]⟩ : Str).cps.toList = [c] from rfl] at g1 g2
        rw [sgn_a] at g1
        rw [sgn_z] at g2
        unfold m_word_t2
        simp?! only [g1]
        cases q : decide (97 ≤ c) with
        | true => simp?! only [g2]
        | false => simp?! only []
      · unfold m_word_e1
        simp?! only []
    have gl := gLen_str hl
    have ge : gEq (.list ((x.cps.toList.filter fun c => !(decide (97 ≤ c) && decide (c ≤ 122))).map fun c => .str ⟨#[c]⟩)) (.list []) = some (.bool (x.cps.toList.all fun c => decide (97 ≤ c) && decide (c ≤ 122))) := by
      have sm : small (.list ((x.cps.toList.filter fun c => !(decide (97 ≤ c) && decide (c ≤ 122))).map fun c => PyData.str ⟨#[c]⟩)) = true := decide_eq_true (by
        rw [PyData.depth]
        have := depth_all 0 (ds := (x.cps.toList.filter fun c => !(decide (97 ≤ c) && decide (c ≤ 122))).map fun c => PyData.str ⟨#[c]⟩) (allM fun c _ => by rw [PyData.depth]; exact Nat.le_refl _)
        omega)
      unfold gEq
      rw [if_pos sm]
      congr 2
      cases hf : x.cps.toList.filter (fun c => !(decide (97 ≤ c) && decide (c ≤ 122))) with
      | nil =>
        have := List.filter_eq_nil_iff.mp hf
        rw [List.map_nil]
        rw [show PyData.eqv (.list []) (.list []) = true by simp [PyData.eqv, PyData.eqvAll]]
        exact (List.all_eq_true.mpr fun c hc => by have := this c hc; simpa using this).symm
      | cons c l =>
        rw [List.map_cons, show PyData.eqv (.list (PyData.str ⟨#[c]⟩ :: l.map fun c => .str ⟨#[c]⟩)) (.list []) = false by simp [PyData.eqv, PyData.eqvAll]]
        have hm : c ∈ x.cps.toList.filter (fun c => !(decide (97 ≤ c) && decide (c ≤ 122))) := by rw [hf]; exact List.mem_cons_self
        have := List.mem_filter.mp hm
        symm
        rw [Bool.eq_false_iff]
        intro z
        have := List.all_eq_true.mp z c this.1
        simp only [this, Bool.not_true, Bool.false_eq_true, and_false] at *
    have e1 : decide ((0 : Int) < (x.length : Int)) = decide (1 ≤ (x.length : Int)) := by congr 1
    have e2 : decide ((x.length : Int) < 9) = decide ((x.length : Int) ≤ 8) := by
      have : ((x.length : Int) < 9) = ((x.length : Int) ≤ 8) := by apply propext; omega
      simp only [this]
    unfold fn_word m_word isWord wordB
    simp?! only [gl, e1]
    cases q1 : decide (1 ≤ (x.length : Int)) with
    | false => simp?! only []
    | true =>
      simp?! only [gl, e2]
      cases q2 : decide ((x.length : Int) ≤ 8) with
      | false => simp?! only []
      | true => simp?! only [hc, ge]
  | dict kvs => have := h.g; simp [good] at this
  | _ => unfold fn_word m_word isWord; simp?! only []
theorem own_number_any {q n k : Nat} {d : PyData} (h : Th q n k d) : fn_number [some (.sh d)] = .ok (.sh (.bool (isCount d))) [none] := by
  cases d with
  | dict kvs => have := h.g; simp [good] at this
  | _ => unfold fn_number m_number isCount; simp?! only []
end Lw
namespace Eg
open PySem L2 PySem.W PySem.SeqAt
theorem ne_list_nil {ds : List PyData} (h : small (.list ds) = true) : gNe (.list ds) (.list []) = some (.bool (!ds.isEmpty)) := by
  unfold gNe
  rw [if_pos h]
  cases ds <;> simp [PyData.eqv, PyData.eqvAll]
theorem eq_list_nil {ds : List PyData} (h : small (.list ds) = true) : gEq (.list ds) (.list []) = some (.bool ds.isEmpty) := by
  unfold gEq
  rw [if_pos h]
  cases ds <;> simp [PyData.eqv, PyData.eqvAll]
theorem eq_tuple_nil {ds : List PyData} (h : small (.tuple ds) = true) : gEq (.tuple ds) (.tuple []) = some (.bool ds.isEmpty) := by
  unfold gEq
  rw [if_pos h]
  cases ds <;> simp [PyData.eqv, PyData.eqvAll]
theorem filt_empty {α : Type} (p : α → Bool) (f : α → PyData) (l : List α) : ((l.filter fun x => !p x).map f).isEmpty = l.all p := by
  induction l with
  | nil => rfl
  | cons x l ih =>
    rw [List.filter_cons, List.all_cons]
    cases h : p x with
    | true => simpa using ih
    | false => simp
theorem not_len {ds : List PyData} {m : Nat} (h : ds.length ≠ m) : decide (((ds.length : Nat) : Int) = (m : Int)) = false := decide_eq_false (by omega)
theorem not_len' {ds : List PyData} {m : Nat} (h : ds.length ≠ m) : decide (((ds.length : Nat) : Int) ≠ (m : Int)) = true := decide_eq_true (by omega)
end Eg
namespace Lw
open PySem L2 PySem.W PySem.SeqAt Eg
def isHand : PyData → Bool
  | .tuple [a, b] => isWord a && isWord b
  | _ => false
def isPair : PyData → Bool
  | .tuple [a, b] => isHand a && (isHand b && dataLt a b)
  | _ => false
def isStamp : PyData → Bool
  | .tuple [a, b] => isCount a && isCount b
  | _ => false
def isBoolD : PyData → Bool
  | .bool _ => true
  | _ => false
def isRow : PyData → Bool
  | .tuple [p, s, a, b, c, d, e] => (isPair p && (isStamp s && (isWord a && isWord b))) && (isCount c && (isCount d && isBoolD e))
  | _ => false
def key0 : PyData → PyData
  | .tuple (a :: _) => a
  | _ => .none
def isRights : PyData → Bool
  | .tuple [a, b, .tuple rows] => (isCount a && isCount b) && (rows.all isRow && adj (rows.map key0))
  | _ => false
def isTold : PyData → Bool
  | .tuple [a, b, c] => isWord a && (isCount b && isCount c)
  | _ => false
def isHeard : PyData → Bool
  | .tuple ds => !ds.isEmpty && (ds.all isTold && adj (ds.map key0))
  | _ => false
theorem hand_no {d : PyData} (h : isTup 2 d = false) : isHand d = false := by unfold isHand; split <;> first | rfl | (simp [isTup] at h)
theorem pair_no {d : PyData} (h : isTup 2 d = false) : isPair d = false := by unfold isPair; split <;> first | rfl | (simp [isTup] at h)
theorem stamp_no {d : PyData} (h : isTup 2 d = false) : isStamp d = false := by unfold isStamp; split <;> first | rfl | (simp [isTup] at h)
theorem row_no {d : PyData} (h : isTup 7 d = false) : isRow d = false := by unfold isRow; split <;> first | rfl | (simp [isTup] at h)
theorem rights_no {d : PyData} (h : isTup 3 d = false) : isRights d = false := by unfold isRights; split <;> first | rfl | (simp [isTup] at h)
theorem told_no {d : PyData} (h : isTup 3 d = false) : isTold d = false := by unfold isTold; split <;> first | rfl | (simp [isTup] at h)
theorem hand_at {d : PyData} (h : isHand d = true) : ∃ x y : Str, d = .tuple [.str x, .str y] := by
  unfold isHand at h
  split at h
  · rw [Bool.and_eq_true] at h
    rename_i a b
    cases a <;> cases b <;> simp [isWord] at h
    exact ⟨_, _, rfl⟩
  · cases h
theorem pair_at {d : PyData} (h : isPair d = true) : ∃ x y z w : Str, d = .tuple [.tuple [.str x, .str y], .tuple [.str z, .str w]] := by
  unfold isPair at h
  split at h
  · rw [Bool.and_eq_true, Bool.and_eq_true] at h
    obtain ⟨x, y, rfl⟩ := hand_at h.1
    obtain ⟨z, w, rfl⟩ := hand_at h.2.1
    exact ⟨x, y, z, w, rfl⟩
  · cases h
theorem gLt_hands {a b : PyData} (ha : isHand a = true) (hb : isHand b = true) : gLt a b = some (.bool (dataLt a b)) := by
  obtain ⟨x, y, rfl⟩ := hand_at ha
  obtain ⟨z, w, rfl⟩ := hand_at hb
  exact gLt_of (by simp [alike, alikeAll]) rfl (by simp [small, PyData.depth, PyData.depthAll])
section
variable {q n k : Nat} {d : PyData}
theorem mem2 {a b : PyData} (h : Th q n k (.tuple [a, b])) : Th q n k a ∧ Th q n k b := by
  have t := h.ofTup.2.2
  exact ⟨(t.mem (d := a) (by simp)).mono (by omega) (by omega) (by omega) h.m, (t.mem (d := b) (by simp)).mono (by omega) (by omega) (by omega) h.m⟩
theorem memT {ds : List PyData} {a : PyData} (h : Th q n k (.tuple ds)) (ha : a ∈ ds) : Th q n k a := (h.ofTup.2.2.mem ha).mono (by omega) (by omega) (by omega) h.m
theorem is_hand_any (h : Th q n k d) (hn : n ≤ 1000000) : fn_is_hand [some (.sh d)] = .ok (.sh (.bool (isHand d))) [none] := by
  have e0 := is_tup_any h 2
  cases ht : isTup 2 d with
  | false =>
    rw [ht] at e0
    rw [hand_no ht]
    have e0 : fn_is_tuple_of [some (.sh d), some (.sh (.int 2))] = .ok (.sh (.bool false)) [none, none] := e0
    unfold fn_is_hand m_is_hand
    simp?! only [e0]
  | true =>
    rw [ht] at e0
    have e0 : fn_is_tuple_of [some (.sh d), some (.sh (.int 2))] = .ok (.sh (.bool true)) [none, none] := e0
    obtain ⟨ds, rfl, hl⟩ := isTup_at ht
    match ds, hl with
    | [a, b], _ =>
      have w1 := is_word_any (mem2 h).1 hn
      have w2 := is_word_any (mem2 h).2 hn
      unfold fn_is_hand m_is_hand isHand
      cases c1 : isWord a with
      | false => rw [c1] at w1; simp?! only [e0, w1, c1]
      | true => rw [c1] at w1; simp?! only [e0, w1, w2, c1]
theorem own_hand_any (h : Th q n k d) (hn : n ≤ 1000000) : fn_hand [some (.sh d)] = .ok (.sh (.bool (isHand d))) [none] := by
  cases ht : isTup 2 d with
  | false =>
    rw [hand_no ht]
    cases d with
    | tuple ds =>
      have l := not_len (m := 2) (of_decide_eq_false ht)
      have l : decide (((ds.length : Nat) : Int) = 2) = false := l
      unfold fn_hand m_hand; simp?! only [l]
    | dict kvs => have := h.g; simp [good] at this
    | _ => unfold fn_hand m_hand; simp?! only []
  | true =>
    obtain ⟨ds, rfl, hl⟩ := isTup_at ht
    match ds, hl with
    | [a, b], _ =>
      have w1 := own_word_any (mem2 h).1 hn
      have w2 := own_word_any (mem2 h).2 hn
      have l2 : decide (((([a, b] : List PyData).length : Nat) : Int) = 2) = true := rfl
      unfold fn_hand m_hand isHand
      cases c1 : isWord a with
      | false => rw [c1] at w1; simp?! only [l2, w1, c1]
      | true => rw [c1] at w1; simp?! only [l2, w1, w2, c1]
theorem is_pair_any (h : Th q n k d) (hn : n ≤ 1000000) : fn_is_pair [some (.sh d)] = .ok (.sh (.bool (isPair d))) [none] := by
  have e0 := is_tup_any h 2
  cases ht : isTup 2 d with
  | false =>
    rw [ht] at e0
    rw [pair_no ht]
    have e0 : fn_is_tuple_of [some (.sh d), some (.sh (.int 2))] = .ok (.sh (.bool false)) [none, none] := e0
    unfold fn_is_pair m_is_pair
    simp?! only [e0]
  | true =>
    rw [ht] at e0
    have e0 : fn_is_tuple_of [some (.sh d), some (.sh (.int 2))] = .ok (.sh (.bool true)) [none, none] := e0
    obtain ⟨ds, rfl, hl⟩ := isTup_at ht
    match ds, hl with
    | [a, b], _ =>
      have w1 := is_hand_any (mem2 h).1 hn
      have w2 := is_hand_any (mem2 h).2 hn
      unfold fn_is_pair m_is_pair isPair
      cases c1 : isHand a with
      | false => rw [c1] at w1; simp?! only [e0, w1, c1]
      | true =>
        rw [c1] at w1
        cases c2 : isHand b with
        | false => rw [c2] at w2; simp?! only [e0, w1, w2, c1, c2]
        | true => rw [c2] at w2; simp?! only [e0, w1, w2, gLt_hands c1 c2, c1, c2]
theorem own_pair_any (h : Th q n k d) (hn : n ≤ 1000000) : fn_pair [some (.sh d)] = .ok (.sh (.bool (isPair d))) [none] := by
  cases ht : isTup 2 d with
  | false =>
    rw [pair_no ht]
    cases d with
    | tuple ds =>
      have l : decide (((ds.length : Nat) : Int) ≠ 2) = true := not_len' (m := 2) (of_decide_eq_false ht)
      unfold fn_pair m_pair; simp?! only [l]
    | dict kvs => have := h.g; simp [good] at this
    | _ => unfold fn_pair m_pair; simp?! only []
  | true =>
    obtain ⟨ds, rfl, hl⟩ := isTup_at ht
    match ds, hl with
    | [a, b], _ =>
      have w1 := own_hand_any (mem2 h).1 hn
      have w2 := own_hand_any (mem2 h).2 hn
      have l2 : decide (((([a, b] : List PyData).length : Nat) : Int) ≠ 2) = false := rfl
      unfold fn_pair m_pair isPair
      cases c1 : isHand a with
      | false => rw [c1] at w1; simp?! only [l2, w1, c1]
      | true =>
        rw [c1] at w1
        cases c2 : isHand b with
        | false => rw [c2] at w2; simp?! only [l2, w1, w2, c1, c2]
        | true => rw [c2] at w2; simp?! only [l2, w1, w2, gLt_hands c1 c2, c1, c2]
theorem is_stamp_any (h : Th q n k d) : fn_is_stamp [some (.sh d)] = .ok (.sh (.bool (isStamp d))) [none] := by
  have e0 := is_tup_any h 2
  cases ht : isTup 2 d with
  | false =>
    rw [ht] at e0
    rw [stamp_no ht]
    have e0 : fn_is_tuple_of [some (.sh d), some (.sh (.int 2))] = .ok (.sh (.bool false)) [none, none] := e0
    unfold fn_is_stamp m_is_stamp
    simp?! only [e0]
  | true =>
    rw [ht] at e0
    have e0 : fn_is_tuple_of [some (.sh d), some (.sh (.int 2))] = .ok (.sh (.bool true)) [none, none] := e0
    obtain ⟨ds, rfl, hl⟩ := isTup_at ht
    match ds, hl with
    | [a, b], _ =>
      have w1 := is_count_any (mem2 h).1
      have w2 := is_count_any (mem2 h).2
      unfold fn_is_stamp m_is_stamp isStamp
      cases c1 : isCount a with
      | false => rw [c1] at w1; simp?! only [e0, w1, c1]
      | true => rw [c1] at w1; simp?! only [e0, w1, w2, c1]
theorem tyBool (h : Th q n k d) : gTyIs "bool" d = some (.bool (isBoolD d)) ∧ gIsi "bool" d = some (.bool (isBoolD d)) := by
  cases d with
  | dict kvs => have := h.g; simp [good] at this
  | none => exact ⟨rfl, isbool_n⟩
  | bool b => exact ⟨rfl, isbool_b b⟩
  | int b => exact ⟨rfl, isbool_i b⟩
  | str b => exact ⟨rfl, isbool_s b⟩
  | list b => exact ⟨rfl, isbool_l b⟩
  | tuple b => exact ⟨rfl, isbool_t b⟩
theorem is_row_any (h : Th q n k d) (hn : n ≤ 1000000) : fn_is_row [some (.sh d)] = .ok (.sh (.bool (isRow d))) [none] := by
  have e0 := is_tup_any h 7
  cases ht : isTup 7 d with
  | false =>
    rw [ht] at e0
    rw [row_no ht]
    have e0 : fn_is_tuple_of [some (.sh d), some (.sh (.int 7))] = .ok (.sh (.bool false)) [none, none] := e0
    unfold fn_is_row m_is_row
    simp?! only [e0]
  | true =>
    rw [ht] at e0
    have e0 : fn_is_tuple_of [some (.sh d), some (.sh (.int 7))] = .ok (.sh (.bool true)) [none, none] := e0
    obtain ⟨ds, rfl, hl⟩ := isTup_at ht
    match ds, hl with
    | [p, s, a, b, c, e, f], _ =>
      have w1 := is_pair_any (memT h (a := p) (by simp)) hn
      have w2 := is_stamp_any (memT h (a := s) (by simp))
      have w3 := is_word_any (memT h (a := a) (by simp)) hn
      have w4 := is_word_any (memT h (a := b) (by simp)) hn
      have w5 := is_count_any (memT h (a := c) (by simp))
      have w6 := is_count_any (memT h (a := e) (by simp))
      have w7 := (tyBool (memT h (a := f) (by simp))).1
      unfold fn_is_row m_is_row isRow
      cases c1 : isPair p with
      | false => rw [c1] at w1; simp?! only [e0, w1, c1]
      | true =>
        rw [c1] at w1
        cases c2 : isStamp s with
        | false => rw [c2] at w2; simp?! only [e0, w1, w2, c1, c2]
        | true =>
          rw [c2] at w2
          cases c3 : isWord a with
          | false => rw [c3] at w3; simp?! only [e0, w1, w2, w3, c1, c2, c3]
          | true =>
            rw [c3] at w3
            cases c4 : isWord b with
            | false => rw [c4] at w4; simp?! only [e0, w1, w2, w3, w4, c1, c2, c3, c4]
            | true =>
              rw [c4] at w4
              cases c5 : isCount c with
              | false => rw [c5] at w5; simp?! only [e0, w1, w2, w3, w4, w5, c1, c2, c3, c4, c5]
              | true =>
                rw [c5] at w5
                cases c6 : isCount e with
                | false => rw [c6] at w6; simp?! only [e0, w1, w2, w3, w4, w5, w6, c1, c2, c3, c4, c5, c6]
                | true => rw [c6] at w6; simp?! only [e0, w1, w2, w3, w4, w5, w6, w7, c1, c2, c3, c4, c5, c6]
end
end Lw
set_option exponentiation.threshold 10000
namespace Eg
open PySem L2 PySem.W PySem.SeqAt
theorem sIx_none' (n d : Nat) : HT.sIx n d none = d := rfl
theorem sIx_some {n d : Nat} {v : Int} (h : 0 ≤ v) : HT.sIx n d (some v) = min v.toNat n := by
  unfold HT.sIx
  simp only
  rw [if_neg (by omega)]
theorem cut_to {ds : List PyData} {v : Int} (h : 0 ≤ v) : cutD ds none (some v) = ds.take v.toNat := by
  unfold cutD
  rw [sIx_none', sIx_some h, List.drop_zero, Nat.sub_zero]
  by_cases q : v.toNat ≤ ds.length
  · rw [Nat.min_eq_left q]
  · rw [Nat.min_eq_right (by omega), List.take_of_length_le (Nat.le_refl _), List.take_of_length_le (by omega)]
theorem cut_fr {ds : List PyData} {v : Int} (h : 0 ≤ v) : cutD ds (some v) none = ds.drop v.toNat := by
  unfold cutD
  rw [sIx_none', sIx_some h]
  by_cases q : v.toNat ≤ ds.length
  · rw [Nat.min_eq_left q]
    exact List.take_of_length_le (by rw [List.length_drop]; exact Nat.le_refl _)
  · rw [Nat.min_eq_right (by omega), Nat.sub_self, List.take_zero, List.drop_eq_nil_of_le (by omega)]
/-- a place amid -/
theorem split_at {ds : List PyData} {v : Int} (h0 : 0 ≤ v) (h1 : v < (ds.length : Int)) : ∃ A e B, ds = A ++ e :: B ∧ cutD ds none (some v) = A ∧ cutD ds (some (v + 1)) none = B ∧ cutD ds (some v) (some (v + 1)) = [e] ∧ cutD ds (some v) none = e :: B ∧ L2.atI ds v = some e := by
  have hv : v.toNat < ds.length := by omega
  have hd : ds.drop v.toNat = ds[v.toNat] :: ds.drop (v.toNat + 1) := List.drop_eq_getElem_cons hv
  refine ⟨ds.take v.toNat, ds[v.toNat], ds.drop (v.toNat + 1), ?_, cut_to h0, ?_, ?_, ?_, ?_⟩
  · rw [← hd, List.take_append_drop]
  · have e1 : (v + 1).toNat = v.toNat + 1 := by omega
    rw [cut_fr (by omega), e1]
  · unfold cutD
    rw [sIx_some h0, sIx_some (by omega), Nat.min_eq_left (by omega), Nat.min_eq_left (by omega), hd]
    have : (v + 1).toNat - v.toNat = 1 := by omega
    rw [this]
    rfl
  · rw [cut_fr h0, hd]
  · unfold L2.atI ixN
    simp [h0, h1]
theorem gIx_mem {l : List PyData} {v : Int} (h0 : 0 ≤ v) (h1 : v < (l.length : Int)) : ∃ d ∈ l, gIx (.list l) (.int v) = some d := by
  obtain ⟨A, e, B, rfl, _, _, _, _, h⟩ := split_at h0 h1
  exact ⟨e, by simp, h⟩
theorem gSl_t (ds : List PyData) (lo hi : Option Int) : gSl (.tuple ds) lo hi = some (.sh (.tuple (cutD ds lo hi))) := rfl
theorem aAdd_tt {xs ys : List PyData} (h : xs.length + ys.length ≤ sizeLine) : aAdd (.tuple xs) (.tuple ys) = some (.sh (.tuple (xs ++ ys))) := by
  simp only [aAdd]
  rw [if_pos h]
theorem aAdd_ll {xs ys : List PyData} (h : xs.length + ys.length ≤ sizeLine) : aAdd (.list xs) (.list ys) = some (.ol (xs ++ ys)) := by
  simp only [aAdd]
  rw [if_pos h]
theorem gList_t (ds : List PyData) : gList [.tuple ds] = some (.ol ds) := rfl
theorem gList_l (ds : List PyData) : gList [.list ds] = some (.ol ds) := rfl
theorem v_ai2 (i : Int) : ((M.ret (PyData.int i)).bind fun d => (asInt d).bind fun i => M.ret (some i)) = M.ret (some i) := rfl
theorem ne_tuple_nil {ds : List PyData} (h : small (.tuple ds) = true) : gNe (.tuple ds) (.tuple []) = some (.bool (!ds.isEmpty)) := by
  unfold gNe
  rw [if_pos h]
  cases ds <;> simp [PyData.eqv, PyData.eqvAll]
end Eg
namespace Lw
open PySem L2 PySem.W PySem.SeqAt Eg
def base14 : List PyData := [.none, .str "", .str "a", .str "few", .int 0, .int (-1), .bool true, .int (10 ^ (40 : Int).toNat), .tuple [], .list [], .str "Aa", .tuple [.str "a", .str "b"], .int 3, .str "ninelette"]
theorem base14_th {q : Nat} (h : 41 ≤ q) (h4 : q ≤ 400) : ∀ d ∈ base14, Th q 60 1 d := fun d hd => by
  have : ∀ d ∈ base14, thB 41 60 1 d = true := by decide +kernel
  exact (Th.ofB (this d hd) (by decide)).mono (Nat.le_refl _) (Nat.le_refl _) h h4
/-- what is left where nothing is bent -/
theorem bent_last {xs : List PyData} {n q : Nat} (hf : FeedAt xs n) (hn : n < 900000) (hq : 41 ≤ q) (h4 : q ≤ 400) : ∃ d' v xs', Th q 60 1 d' ∧ FeedAt xs' (n + 1) ∧ fn_draw [some (.ol xs), some (.sh (.int 14))] = .ok (.sh (.int v)) [some (.ol xs'), none] ∧ gIx (.list base14) (.int v) = some d' := by
  obtain ⟨v, xs', v0, v1, f1, e1⟩ := draw_at hf (by omega) (show (0 : Int) < 14 by decide) (by decide)
  obtain ⟨d, hd, e2⟩ := gIx_mem (l := base14) v0 (by exact v1)
  exact ⟨d, v, xs', base14_th hq h4 d hd, f1, e1, e2⟩
theorem bent_ok : ∀ (r : Nat) {xs : List PyData} {n q w k : Nat} {d : PyData}, FeedAt xs n → n + 5 * r < 900000 → Th q w k d → 40 ≤ q → q < 390 → w ≤ 100000 → k ≤ 50 → k < r →
    ∃ d' xs', Th (q + 1) (2 * w + 100) (k + 1) d' ∧ FeedAt xs' (n + 5 * r) ∧ fn_bent r [some (.ol xs), some (.sh d)] = .ok (.sh d') [some (.ol xs'), none]
  | 0, _, _, _, _, _, _, _, _, _, _, _, _, _, h => by omega
  | r + 1, xs, n, q, w, k, d, hf, hn, h, hq, hq2, hw, hk, hkr => by
    have z := sizeLine_eq
    have p40 : gPow (.int 10) (.int 40) = some (.int (10 ^ (40 : Int).toNat)) := gPow_int (by decide)
    have l14 : lstG base14 = some (.ol base14) := lstG_ok (by decide)
    unfold base14 at l14
    have fin : ∀ {ys : List PyData} {m : Nat}, FeedAt ys m → m ≤ n + 3 → ∃ d' v ys', Th (q + 1) (2 * w + 100) (k + 1) d' ∧ FeedAt ys' (n + 5 * (r + 1)) ∧ fn_draw [some (.ol ys), some (.sh (.int 14))] = .ok (.sh (.int v)) [some (.ol ys'), none] ∧ gIx (.list base14) (.int v) = some d' := by
      intro ys m hy hm
      obtain ⟨d', v, ys', t, f, e1, e2⟩ := bent_last (q := q + 1) hy (by omega) (by omega) (by omega)
      exact ⟨d', v, ys', t.mono (by omega) (by omega), f.mono (by omega), e1, e2⟩
    match d, h with
    | .tuple ds, h =>
      obtain ⟨w3, k1, hs⟩ := h.ofTup
      have hl := hs.len
      have sm : small (.tuple ds) = true := decide_eq_true (Nat.le_trans h.k (by omega))
      have nt := ne_tuple_nil sm
      cases hds : ds.isEmpty with
      | true =>
        rw [hds] at nt
        obtain ⟨d', v, ys', t, f, e1, e2⟩ := fin hf (by omega)
        unfold base14 at e2
        refine ⟨d', ys', t, f, ?_⟩
        unfold fn_bent m_bent
        simp?! only [nt, p40, l14, e1, e2]
      | false =>
        rw [hds] at nt
        have hpos : (0 : Int) < (ds.length : Int) := by
          cases ds with
          | nil => cases hds
          | cons a l => simp only [List.length_cons]; omega
        obtain ⟨u, xs1, u0, u1, f1, e1⟩ := draw_at hf (by omega) (show (0 : Int) < 9 by decide) (by decide)
        cases hu : decide (0 < u) with
        | false =>
          obtain ⟨d', v, ys', t, f, g1, g2⟩ := fin f1 (by omega)
          unfold base14 at g2
          refine ⟨d', ys', t, f, ?_⟩
          unfold fn_bent m_bent
          simp?! only [nt, e1, hu, p40, l14, g1, g2]
        | true =>
          obtain ⟨v, xs2, v0, v1, f2, e2⟩ := draw_at f1 (by omega) hpos (by omega)
          obtain ⟨y, xs3, y0, y1, f3, e3⟩ := draw_at f2 (by omega) (show (0 : Int) < 8 by decide) (by decide)
          obtain ⟨A, e, B, eds, c1, c2, c3, c4, c5⟩ := split_at v0 v1
          have hA : Ths q (wtAll A) (k - 1) A := ⟨Nat.le_refl _, fun x hx => hs.k x (by rw [eds]; simp [hx]), fun x hx => hs.g x (by rw [eds]; simp [hx]), hs.m⟩
          have hB : Ths q (wtAll B) (k - 1) B := ⟨Nat.le_refl _, fun x hx => hs.k x (by rw [eds]; simp [hx]), fun x hx => hs.g x (by rw [eds]; simp [hx]), hs.m⟩
          have he : Th q (wt e) (k - 1) e := ⟨Nat.le_refl _, hs.k e (by rw [eds]; simp), hs.g e (by rw [eds]; simp), hs.m⟩
          have hew : Ths q (wt e + 2) (k - 1) [e] := (Ths.cons he (Ths.nil (n := 0) hs.m)).mono (by omega) (Nat.le_refl _) (Nat.le_refl _) hs.m
          have hsw := hs.w
          rw [eds, wtAll_append] at hsw
          simp only [wtAll] at hsw
          have lA : ds.length = A.length + (B.length + 1) := by rw [eds]; simp
          have ix : gIx (.tuple ds) (.int v) = some e := c5
          have a1 : aAdd (.tuple A) (.tuple B) = some (.sh (.tuple (A ++ B))) := aAdd_tt (by omega)
          have a2 : aAdd (.tuple A) (.tuple [e]) = some (.sh (.tuple (A ++ [e]))) := aAdd_tt (by simp; omega)
          have a3 : aAdd (.tuple (A ++ [e])) (.tuple (e :: B)) = some (.sh (.tuple (A ++ [e] ++ (e :: B)))) := aAdd_tt (by simp; omega)
          have a4 : aAdd (.list [.tuple (A ++ B), .tuple (A ++ [e] ++ (e :: B))]) (.list [.tuple ds.reverse, .list ds]) = some (.ol [.tuple (A ++ B), .tuple (A ++ [e] ++ (e :: B)), .tuple ds.reverse, .list ds]) := aAdd_ll (by simp; omega)
          cases hy : decide (y < 4) with
          | true =>
            obtain ⟨d', hd', g⟩ := gIx_mem (l := [.tuple (A ++ B), .tuple (A ++ [e] ++ (e :: B)), .tuple ds.reverse, .list ds]) y0 (by have := of_decide_eq_true hy; simpa using this)
            have td : Th (q + 1) (2 * w + 100) (k + 1) d' := by
              simp only [List.mem_cons, List.not_mem_nil, or_false] at hd'
              rcases hd' with rfl | rfl | rfl | rfl
              · exact (hA.append hB).tup.mono (by omega) (by omega)
              · exact ((hA.append hew).append (hew.append hB)).tup.mono (by omega) (by omega)
              · exact hs.rev.tup.mono (by omega) (by omega)
              · exact hs.lst.mono (by omega) (by omega)
            refine ⟨d', xs3, td, f3.mono (by omega), ?_⟩
            unfold fn_bent m_bent
            simp?! only [nt, e1, hu, e2, e3, gSl_t, c1, c2, c3, c4, a1, a2, a3, a4, rev_t, gList_t, hy, g]
          | false =>
            obtain ⟨x, xs4, tx, f4, e4⟩ := bent_ok r (q := q) (w := wt e) (k := k - 1) f3 (by omega) he hq hq2 (by omega) (by omega) (by omega)
            have b1 : aAdd (.tuple A) (.tuple [x]) = some (.sh (.tuple (A ++ [x]))) := aAdd_tt (by simp; omega)
            have b2 : aAdd (.tuple (A ++ [x])) (.tuple B) = some (.sh (.tuple (A ++ [x] ++ B))) := aAdd_tt (by simp; omega)
            have hx : Ths (q + 1) (2 * wt e + 100 + 2) k [x] := (Ths.cons tx (Ths.nil (n := 0) (by omega))).mono (by omega) (by omega)
            have hA' : Ths (q + 1) (wtAll A) k A := hA.mono (Nat.le_refl _) (by omega)
            have hB' : Ths (q + 1) (wtAll B) k B := hB.mono (Nat.le_refl _) (by omega)
            refine ⟨.tuple (A ++ [x] ++ B), xs4, ((hA'.append hx).append hB').tup.mono (by omega) (Nat.le_refl _), f4.mono (by omega), ?_⟩
            unfold fn_bent m_bent
            simp?! only [nt, e1, hu, e2, e3, gSl_t, c1, c2, c3, c4, a1, a2, a3, a4, rev_t, gList_t, hy, ix, e4, b1, b2]
    | .int i, h =>
      obtain ⟨u, xs1, u0, u1, f1, e1⟩ := draw_at hf (by omega) (show (0 : Int) < 3 by decide) (by decide)
      cases hu : decide (0 < u) with
      | false =>
        obtain ⟨d', v, ys', t, f, g1, g2⟩ := fin f1 (by omega)
        unfold base14 at g2
        refine ⟨d', ys', t, f, ?_⟩
        unfold fn_bent m_bent
        simp?! only [e1, hu, p40, l14, g1, g2]
      | true =>
        obtain ⟨v, xs2, v0, v1, f2, e2⟩ := draw_at f1 (by omega) (show (0 : Int) < 3 by decide) (by decide)
        obtain ⟨d', hd', g⟩ := gIx_mem (l := [.int 1, .int (-1), .int 2]) v0 (by exact v1)
        obtain ⟨j, rfl, hj⟩ : ∃ j : Int, d' = .int j ∧ -1 ≤ j ∧ j ≤ 2 := by
          simp only [List.mem_cons, List.not_mem_nil, or_false] at hd'
          rcases hd' with rfl | rfl | rfl <;> exact ⟨_, rfl, by decide, by decide⟩
        have hfig := h.figs
        have hb : (i + j).natAbs < 10 ^ (q + 1) := by
          have : 10 ^ (q + 1) = 10 * 10 ^ q := by rw [Nat.pow_succ]; omega
          have : 1 ≤ 10 ^ q := Nat.one_le_pow _ _ (by decide)
          omega
        have hw' : wt (.int (i + j)) ≤ w + 3 := by
          have h1 := h.w
          rw [wt, PyData.shown] at h1 ⊢
          have e : ∀ m : Int, (Str.ofString (toString m)).length = (toString m).length := fun m => ofString_length _
          have h1 : (Str.ofString (toString i)).length ≤ w := h1
          show (Str.ofString (toString (i + j))).length ≤ w + 3
          rw [e] at h1 ⊢
          have hi : i.natAbs < 10 ^ w := by
            cases i with
            | ofNat m =>
              have e1 : toString (Int.ofNat m) = Nat.repr m := rfl
              rw [e1] at h1
              by_cases hw0 : 0 < w
              · exact (Nat.length_repr_le_iff hw0).mp h1
              · have : w = 0 := by omega
                subst this
                have := Nat.length_repr_pos (n := m)
                omega
            | negSucc m =>
              have e1 : toString (Int.negSucc m) = "-" ++ Nat.repr (m + 1) := rfl
              rw [e1, String.length_append] at h1
              have h2 : ("-" : String).length = 1 := rfl
              have hw0 : 0 < w := by omega
              show m + 1 < 10 ^ w
              exact (Nat.length_repr_le_iff hw0).mp (by omega)
          have hi2 : (i + j).natAbs < 10 ^ (w + 1) := by
            have : 10 ^ (w + 1) = 10 * 10 ^ w := by rw [Nat.pow_succ]; omega
            have : 1 ≤ 10 ^ w := Nat.one_le_pow _ _ (by decide)
            omega
          have := int_text_length_le10 (k := w + 1) (by omega) hi2
          omega
        have tt : Th (q + 1) (2 * w + 100) (k + 1) (.int (i + j)) := ⟨by omega, by rw [PyData.depth]; omega, by rw [good]; exact decide_eq_true hb, by omega⟩
        refine ⟨.int (i + j), xs2, tt, f2.mono (by omega), ?_⟩
        unfold fn_bent m_bent
        simp?! only [e1, hu, e2, g]
    | .bool _, h =>
      obtain ⟨d', v, ys', t, f, e1, e2⟩ := fin hf (by omega)
      unfold base14 at e2
      refine ⟨d', ys', t, f, ?_⟩
      unfold fn_bent m_bent
      simp?! only [p40, l14, e1, e2]
    | .none, h =>
      obtain ⟨d', v, ys', t, f, e1, e2⟩ := fin hf (by omega)
      unfold base14 at e2
      refine ⟨d', ys', t, f, ?_⟩
      unfold fn_bent m_bent
      simp?! only [p40, l14, e1, e2]
    | .str _, h =>
      obtain ⟨d', v, ys', t, f, e1, e2⟩ := fin hf (by omega)
      unfold base14 at e2
      refine ⟨d', ys', t, f, ?_⟩
      unfold fn_bent m_bent
      simp?! only [p40, l14, e1, e2]
    | .list _, h =>
      obtain ⟨d', v, ys', t, f, e1, e2⟩ := fin hf (by omega)
      unfold base14 at e2
      refine ⟨d', ys', t, f, ?_⟩
      unfold fn_bent m_bent
      simp?! only [p40, l14, e1, e2]
    | .dict _, h => have := h.g; simp [good] at this
end Lw
namespace Lw
open PySem L2 PySem.W PySem.SeqAt Eg
section
variable {q n k : Nat} {d : PyData}
theorem own_row_any (h : Th q n k d) (hn : n ≤ 1000000) : fn_own_is_row [some (.sh d)] = .ok (.sh (.bool (isRow d))) [none] := by
  cases ht : isTup 7 d with
  | false =>
    rw [row_no ht]
    cases d with
    | tuple ds =>
      have l : decide (((ds.length : Nat) : Int) ≠ 7) = true := not_len' (m := 7) (of_decide_eq_false ht)
      unfold fn_own_is_row m_own_is_row; simp?! only [l]
    | dict kvs => have := h.g; simp [good] at this
    | _ => unfold fn_own_is_row m_own_is_row; simp?! only []
  | true =>
    obtain ⟨ds, rfl, hl⟩ := isTup_at ht
    match ds, hl with
    | [p, s, a, b, c, e, f], _ =>
      have l7 : decide (((([p, s, a, b, c, e, f] : List PyData).length : Nat) : Int) ≠ 7) = false := rfl
      have w1 := own_pair_any (memT h (a := p) (by simp)) hn
      have hs := memT h (a := s) (by simp)
      have w3 := own_word_any (memT h (a := a) (by simp)) hn
      have w4 := own_word_any (memT h (a := b) (by simp)) hn
      have w5 := own_number_any (memT h (a := c) (by simp))
      have w6 := own_number_any (memT h (a := e) (by simp))
      have w7 := (tyBool (memT h (a := f) (by simp))).2
      unfold fn_own_is_row m_own_is_row isRow
      cases c1 : isPair p with
      | false => rw [c1] at w1; simp?! only [l7, w1, c1]
      | true =>
        rw [c1] at w1
        cases hs2 : isTup 2 s with
        | false =>
          have c2 := stamp_no hs2
          cases s with
          | tuple ss =>
            have l : decide (((ss.length : Nat) : Int) ≠ 2) = true := not_len' (m := 2) (of_decide_eq_false hs2)
            simp?! only [l7, w1, c1, c2, l]
          | dict kvs => have := hs.g; simp [good] at this
          | _ => simp?! only [l7, w1, c1, c2]
        | true =>
          obtain ⟨ss, rfl, hsl⟩ := isTup_at hs2
          match ss, hsl with
          | [x, y], _ =>
            have l2 : decide (((([x, y] : List PyData).length : Nat) : Int) ≠ 2) = false := rfl
            have u1 := own_number_any (mem2 hs).1
            have u2 := own_number_any (mem2 hs).2
            unfold isStamp
            cases d1 : isCount x with
            | false => rw [d1] at u1; simp?! only [l7, l2, w1, u1, c1, d1]
            | true =>
              rw [d1] at u1
              cases d2 : isCount y with
              | false => rw [d2] at u2; simp?! only [l7, l2, w1, u1, u2, c1, d1, d2]
              | true =>
                rw [d2] at u2
                cases c3 : isWord a with
                | false => rw [c3] at w3; simp?! only [l7, l2, w1, u1, u2, w3, c1, d1, d2, c3]
                | true =>
                  rw [c3] at w3
                  cases c4 : isWord b with
                  | false => rw [c4] at w4; simp?! only [l7, l2, w1, u1, u2, w3, w4, c1, d1, d2, c3, c4]
                  | true =>
                    rw [c4] at w4
                    cases c5 : isCount c with
                    | false => rw [c5] at w5; simp?! only [l7, l2, w1, u1, u2, w3, w4, w5, c1, d1, d2, c3, c4, c5]
                    | true =>
                      rw [c5] at w5
                      cases c6 : isCount e with
                      | false => rw [c6] at w6; simp?! only [l7, l2, w1, u1, u2, w3, w4, w5, w6, c1, d1, d2, c3, c4, c5, c6]
                      | true => rw [c6] at w6; simp?! only [l7, l2, w1, u1, u2, w3, w4, w5, w6, w7, c1, d1, d2, c3, c4, c5, c6]
theorem told_any (h : Th q n k d) (hn : n ≤ 1000000) : fn_is_told_rise [some (.sh d)] = .ok (.sh (.bool (isTold d))) [none] := by
  have e0 := is_tup_any h 3
  cases ht : isTup 3 d with
  | false =>
    rw [ht] at e0
    rw [told_no ht]
    have e0 : fn_is_tuple_of [some (.sh d), some (.sh (.int 3))] = .ok (.sh (.bool false)) [none, none] := e0
    unfold fn_is_told_rise m_is_told_rise
    simp?! only [e0]
  | true =>
    rw [ht] at e0
    have e0 : fn_is_tuple_of [some (.sh d), some (.sh (.int 3))] = .ok (.sh (.bool true)) [none, none] := e0
    obtain ⟨ds, rfl, hl⟩ := isTup_at ht
    match ds, hl with
    | [a, b, c], _ =>
      have w1 := is_word_any (memT h (a := a) (by simp)) hn
      have w2 := is_count_any (memT h (a := b) (by simp))
      have w3 := is_count_any (memT h (a := c) (by simp))
      unfold fn_is_told_rise m_is_told_rise isTold
      cases c1 : isWord a with
      | false => rw [c1] at w1; simp?! only [e0, w1, c1]
      | true =>
        rw [c1] at w1
        cases c2 : isCount b with
        | false => rw [c2] at w2; simp?! only [e0, w1, w2, c1, c2]
        | true => rw [c2] at w2; simp?! only [e0, w1, w2, w3, c1, c2]
theorem triple_any (h : Th q n k d) (hn : n ≤ 1000000) : fn_is_triple [some (.sh d)] = .ok (.sh (.bool (isTold d))) [none] := by
  cases ht : isTup 3 d with
  | false =>
    rw [told_no ht]
    cases d with
    | tuple ds =>
      have l : decide (((ds.length : Nat) : Int) ≠ 3) = true := not_len' (m := 3) (of_decide_eq_false ht)
      unfold fn_is_triple m_is_triple; simp?! only [l]
    | dict kvs => have := h.g; simp [good] at this
    | _ => unfold fn_is_triple m_is_triple; simp?! only []
  | true =>
    obtain ⟨ds, rfl, hl⟩ := isTup_at ht
    match ds, hl with
    | [a, b, c], _ =>
      have l3 : decide (((([a, b, c] : List PyData).length : Nat) : Int) ≠ 3) = false := rfl
      have w1 := own_word_any (memT h (a := a) (by simp)) hn
      have w2 := own_number_any (memT h (a := b) (by simp))
      have w3 := own_number_any (memT h (a := c) (by simp))
      unfold fn_is_triple m_is_triple isTold
      cases c1 : isWord a with
      | false => rw [c1] at w1; simp?! only [l3, w1, c1]
      | true =>
        rw [c1] at w1
        cases c2 : isCount b with
        | false => rw [c2] at w2; simp?! only [l3, w1, w2, c1, c2]
        | true => rw [c2] at w2; simp?! only [l3, w1, w2, w3, c1, c2]
end
/-! ## the rise -/
theorem getD_mem {ds : List PyData} {j : Nat} (h : j < ds.length) : ds.getD j .none ∈ ds := by
  have e : ds.getD j .none = ds[j] := by simp [List.getD, h]
  rw [e]
  exact List.getElem_mem h
theorem gIx_lst {ds : List PyData} {j : Nat} (h : j < ds.length) : gIx (.list ds) (.int (j : Int)) = some (ds.getD j .none) := by
  show L2.atI ds _ = _
  unfold L2.atI ixN
  rw [if_pos (by omega), if_pos (by omega)]
  simp [List.getD, h]
theorem adj_all : ∀ ds : List PyData, (List.range (ds.length - 1)).all (fun i => dataLt (ds.getD i .none) (ds.getD (i + 1) .none)) = adj ds
  | [] => rfl
  | [_] => rfl
  | x :: y :: l => by
    have ih := adj_all (y :: l)
    have e : (x :: y :: l).length - 1 = ((y :: l).length - 1) + 1 := by simp
    rw [e, List.range_succ_eq_map, List.all_cons, List.all_map]
    show _ = (dataLt x y && adj (y :: l))
    rw [← ih]
    rfl
def CmpAll (ds : List PyData) : Prop := ∀ x ∈ ds, ∀ y ∈ ds, alike x y = true ∧ Eg.isNon x = false ∧ small x = true
theorem rise_any {ds : List PyData} (hl : ds.length ≤ 100000) (h : CmpAll ds) (sm : small (.list ds) = true) : fn_rise [some (.sh (.list ds))] = .ok (.sh (.bool (adj ds))) [none] := by
  have z := sizeLine_eq
  have hg : rng2 [.int 1, .int ((ds.length : Nat) : Int)] = some ((List.range (ds.length - 1)).map fun i => PyData.int (((i + 1 : Nat) : Int))) := by
    have e : ((ds.length : Int) - 1).toNat = ds.length - 1 := by omega
    have e2 : rngD 1 (ds.length - 1) = (List.range (ds.length - 1)).map fun i => PyData.int (((i + 1 : Nat) : Int)) := by
      unfold rngD
      exact List.map_congr_left fun i _ => by simp; omega
    simp only [rng2]
    rw [if_pos (by omega), e, e2]
  have hc : mComp (mL rng2 (mCons ((M.ret (.int 1)).bind fun d => M.ret (.dat d)) (mCons (((mL gLen (mCons (mSlot 0) (mNil))).bind fz).bind fun d => M.ret (.dat d)) (mNil)))) (tName 1) m_rise_t2 m_rise_e1 [1] [some (.sh (.list ds)), none] = .ok (.ol (((List.range (ds.length - 1)).filter fun i => !dataLt (ds.getD i .none) (ds.getD (i + 1) .none)).map fun i => PyData.int (((i + 1 : Nat) : Int)))) [some (.sh (.list ds)), none] := by
    refine comp_filt (f := fun i : Nat => PyData.int (((i + 1 : Nat) : Int))) (fun i => !dataLt (ds.getD i .none) (ds.getD (i + 1) .none)) (fun i : Nat => PyData.int (((i + 1 : Nat) : Int))) (by simp?! only [hg]) (by rw [List.length_range]; omega) fun i hi => ⟨[some (.sh (.list ds)), some (.sh (.int (((i + 1 : Nat) : Int))))], [some (.sh (.list ds)), some (.sh (.int (((i + 1 : Nat) : Int))))], rfl, ?_, rfl, fun _ => ⟨[some (.sh (.list ds)), some (.sh (.int (((i + 1 : Nat) : Int))))], ?_, rfl⟩⟩
    · have hi := List.mem_range.mp hi
      have a1 : gIx (.list ds) (.int (((i + 1 : Nat) : Int) - 1)) = some (ds.getD i .none) := by
        rw [show ((i + 1 : Nat) : Int) - 1 = (i : Int) by omega]
        exact gIx_lst (by omega)
      have a2 : gIx (.list ds) (.int (((i + 1 : Nat) : Int))) = some (ds.getD (i + 1) .none) := gIx_lst (by omega)
      have hh : gLt (ds.getD i .none) (ds.getD (i + 1) .none) = some (.bool (dataLt (ds.getD i .none) (ds.getD (i + 1) .none))) := by
        have m1 := getD_mem (ds := ds) (j := i) (by omega)
        have m2 := getD_mem (ds := ds) (j := i + 1) (by omega)
        exact gLt_of (h _ m1 _ m2).1 (h _ m1 _ m2).2.1 (h _ m1 _ m2).2.2
      unfold m_rise_t2
      simp?! only [a1, a2, hh]
    · unfold m_rise_e1
      simp?! only []
  have ge : gEq (.list (((List.range (ds.length - 1)).filter fun i => !dataLt (ds.getD i .none) (ds.getD (i + 1) .none)).map fun i => PyData.int (((i + 1 : Nat) : Int)))) (.list []) = some (.bool (adj ds)) := by
    rw [eq_list_nil, filt_empty, adj_all]
    exact decide_eq_true (by
      rw [PyData.depth]
      have := depth_all 0 (ds := ((List.range (ds.length - 1)).filter fun i => !dataLt (ds.getD i .none) (ds.getD (i + 1) .none)).map fun i => PyData.int (((i + 1 : Nat) : Int))) (allM fun c _ => by rw [PyData.depth]; exact Nat.le_refl _)
      omega)
  unfold fn_rise m_rise
  simp?! only [hc, ge]
end Lw
namespace Lw
open PySem L2 PySem.W PySem.SeqAt Eg
theorem row_key {x : PyData} (h : isRow x = true) : ∃ rest, x = .tuple (key0 x :: rest) ∧ isPair (key0 x) = true := by
  unfold isRow at h
  split at h
  · rename_i p s a b c d e
    simp only [Bool.and_eq_true] at h
    exact ⟨[s, a, b, c, d, e], rfl, h.1.1⟩
  · cases h
theorem told_key {x : PyData} (h : isTold x = true) : ∃ rest s, x = .tuple (key0 x :: rest) ∧ key0 x = .str s := by
  unfold isTold at h
  split at h
  · rename_i a b c
    simp only [Bool.and_eq_true] at h
    cases a <;> simp [isWord] at h
    exact ⟨[b, c], _, rfl, rfl⟩
  · cases h
theorem keys_small {ds : List PyData} (h : ∀ d ∈ ds, d.depth ≤ 2) : small (.list ds) = true := decide_eq_true (by
  rw [PyData.depth]
  have := depth_all 2 h
  omega)
theorem rows_cmp {rows : List PyData} (h : rows.all isRow = true) : CmpAll (rows.map key0) ∧ small (.list (rows.map key0)) = true := by
  have hp : ∀ d ∈ rows.map key0, ∃ x y z w : Str, d = .tuple [.tuple [.str x, .str y], .tuple [.str z, .str w]] := fun d hd => by
    obtain ⟨r, hr, rfl⟩ := List.mem_map.mp hd
    obtain ⟨_, _, e⟩ := row_key (List.all_eq_true.mp h r hr)
    exact pair_at e
  refine ⟨fun x hx y hy => ?_, keys_small fun d hd => ?_⟩
  · obtain ⟨a, b, c, e, rfl⟩ := hp x hx
    obtain ⟨a', b', c', e', rfl⟩ := hp y hy
    exact ⟨by simp [alike, alikeAll], rfl, by simp [small, PyData.depth, PyData.depthAll]⟩
  · obtain ⟨a, b, c, e, rfl⟩ := hp d hd
    simp [PyData.depth, PyData.depthAll]
theorem tolds_cmp {rows : List PyData} (h : rows.all isTold = true) : CmpAll (rows.map key0) ∧ small (.list (rows.map key0)) = true := by
  have hp : ∀ d ∈ rows.map key0, ∃ x : Str, d = .str x := fun d hd => by
    obtain ⟨r, hr, rfl⟩ := List.mem_map.mp hd
    obtain ⟨_, s, _, e⟩ := told_key (List.all_eq_true.mp h r hr)
    exact ⟨s, e⟩
  refine ⟨fun x hx y hy => ?_, keys_small fun d hd => ?_⟩
  · obtain ⟨a, rfl⟩ := hp x hx
    obtain ⟨a', rfl⟩ := hp y hy
    exact ⟨by simp [alike], rfl, by simp [small, PyData.depth]⟩
  · obtain ⟨a, rfl⟩ := hp d hd
    simp [PyData.depth]
theorem gIx_key {x : PyData} {rest : List PyData} (h : x = .tuple (key0 x :: rest)) : gIx x (.int 0) = some (key0 x) := by
  cases x with
  | tuple ds =>
    cases ds with
    | nil => cases h
    | cons a l =>
      show L2.atI (a :: l) 0 = some a
      unfold L2.atI ixN
      rw [if_pos (by omega), if_pos (by simp only [List.length_cons]; omega)]
      rfl
  | _ => cases h
section
variable {q n k : Nat} {d : PyData}
theorem is_rights_any (h : Th q n k d) (hn : n ≤ 200000) : fn_is_rights [some (.sh d)] = .ok (.sh (.bool (isRights d))) [none] := by
  have z := sizeLine_eq
  have e0 := is_tup_any h 3
  cases ht : isTup 3 d with
  | false =>
    rw [ht] at e0
    rw [rights_no ht]
    have e0 : fn_is_tuple_of [some (.sh d), some (.sh (.int 3))] = .ok (.sh (.bool false)) [none, none] := e0
    unfold fn_is_rights m_is_rights
    simp?! only [e0]
  | true =>
    rw [ht] at e0
    have e0 : fn_is_tuple_of [some (.sh d), some (.sh (.int 3))] = .ok (.sh (.bool true)) [none, none] := e0
    obtain ⟨ds, rfl, hl⟩ := isTup_at ht
    match ds, hl with
    | [a, b, r], _ =>
      have w1 := is_count_any (memT h (a := a) (by simp))
      have w2 := is_count_any (memT h (a := b) (by simp))
      have hr := memT h (a := r) (by simp)
      unfold fn_is_rights m_is_rights
      cases c1 : isCount a with
      | false => rw [c1] at w1; cases r <;> (unfold isRights; simp?! only [e0, w1, c1])
      | true =>
        rw [c1] at w1
        cases c2 : isCount b with
        | false => rw [c2] at w2; cases r <;> (unfold isRights; simp?! only [e0, w1, w2, c1, c2])
        | true =>
          rw [c2] at w2
          cases r with
          | tuple rows =>
            have hrl : rows.length ≤ 100000 := by have := hr.ofTup.2.2.len; omega
            let ρ : Rho := [some (.sh (.tuple [a, b, .tuple rows])), some (.sh a), some (.sh b), some (.sh (.tuple rows)), none]
            have k1 : mComp ((mName 3).bind seqItems) (tName 4) (M.ret true) m_is_rights_e1 [4] ρ = .ok (.ol (rows.map fun x => .bool (isRow x))) ρ := by
              refine comp_pure (f := id) (fun x => .bool (isRow x)) (by rw [List.map_id]; simp?! only [ρ]) (by omega) fun x hx => ⟨[some (.sh (.tuple [a, b, .tuple rows])), some (.sh a), some (.sh b), some (.sh (.tuple rows)), some (.sh x)], [some (.sh (.tuple [a, b, .tuple rows])), some (.sh a), some (.sh b), some (.sh (.tuple rows)), some (.sh x)], rfl, ?_, rfl⟩
              have := is_row_any (memT hr hx) (by omega)
              unfold m_is_rights_e1
              simp?! only [this]
            have ga := gAll_map isRow rows
            cases c3 : rows.all isRow with
            | false =>
              rw [c3] at ga
              unfold isRights
              simp?! only [e0, w1, w2, c1, c2, ρ, k1, ga, c3]
            | true =>
              rw [c3] at ga
              have k2 : mComp ((mName 3).bind seqItems) (tName 4) (M.ret true) m_is_rights_e2 [4] ρ = .ok (.ol (rows.map key0)) ρ := by
                refine comp_pure (f := id) key0 (by rw [List.map_id]; simp?! only [ρ]) (by omega) fun x hx => ⟨[some (.sh (.tuple [a, b, .tuple rows])), some (.sh a), some (.sh b), some (.sh (.tuple rows)), some (.sh x)], [some (.sh (.tuple [a, b, .tuple rows])), some (.sh a), some (.sh b), some (.sh (.tuple rows)), some (.sh x)], rfl, ?_, rfl⟩
                obtain ⟨rest, e, _⟩ := row_key (List.all_eq_true.mp c3 x hx)
                have := gIx_key e
                unfold m_is_rights_e2
                simp?! only [this]
              have kr := rises_ok (ds := rows.map key0) (by rw [List.length_map]; exact hrl) (rows_cmp c3).1
              unfold isRights
              simp?! only [e0, w1, w2, c1, c2, ρ, k1, k2, ga, c3, kr]
          | dict kvs => have := hr.g; simp [good] at this
          | _ => unfold isRights; simp?! only [e0, w1, w2, c1, c2]
theorem is_lot_any (h : Th q n k d) (hn : n ≤ 200000) (hk : k ≤ 59) : fn_is_lot [some (.sh d)] = .ok (.sh (.bool (isRights d))) [none] := by
  have z := sizeLine_eq
  cases ht : isTup 3 d with
  | false =>
    rw [rights_no ht]
    cases d with
    | tuple ds =>
      have l : decide (((ds.length : Nat) : Int) ≠ 3) = true := not_len' (m := 3) (of_decide_eq_false ht)
      unfold fn_is_lot m_is_lot; simp?! only [l]
    | dict kvs => have := h.g; simp [good] at this
    | _ => unfold fn_is_lot m_is_lot; simp?! only []
  | true =>
    obtain ⟨ds, rfl, hl⟩ := isTup_at ht
    match ds, hl with
    | [a, b, r], _ =>
      have l3 : decide (((([a, b, r] : List PyData).length : Nat) : Int) ≠ 3) = false := rfl
      have w1 := own_number_any (memT h (a := a) (by simp))
      have w2 := own_number_any (memT h (a := b) (by simp))
      have hr := memT h (a := r) (by simp)
      unfold fn_is_lot m_is_lot
      cases c1 : isCount a with
      | false => rw [c1] at w1; cases r <;> (unfold isRights; simp?! only [l3, w1, c1])
      | true =>
        rw [c1] at w1
        cases c2 : isCount b with
        | false => rw [c2] at w2; cases r <;> (unfold isRights; simp?! only [l3, w1, w2, c1, c2])
        | true =>
          rw [c2] at w2
          cases r with
          | tuple rows =>
            have hrl : rows.length ≤ 100000 := by have := hr.ofTup.2.2.len; omega
            let ρ : Rho := [some (.sh (.tuple [a, b, .tuple rows])), none]
            have k1 : mComp ((m2 gIx (mSlot 0) ((M.ret (.int 2)).bind fun d => M.ret (.dat d))).bind seqItems) (tName 1) m_is_lot_t2 m_is_lot_e1 [1] ρ = .ok (.ol ((rows.filter fun x => !isRow x).map id)) ρ := by
              refine comp_filt (f := id) (fun x => !isRow x) id (by rw [List.map_id]; simp?! only [ρ]) (by omega) fun x hx => ⟨[some (.sh (.tuple [a, b, .tuple rows])), some (.sh x)], [some (.sh (.tuple [a, b, .tuple rows])), some (.sh x)], rfl, ?_, rfl, fun _ => ⟨[some (.sh (.tuple [a, b, .tuple rows])), some (.sh x)], ?_, rfl⟩⟩
              · have := own_row_any (memT hr hx) (by omega)
                unfold m_is_lot_t2
                cases c : isRow x <;> (rw [c] at this; simp?! only [this])
              · unfold m_is_lot_e1
                simp?! only [id]
            have ne : gNe (.list ((rows.filter fun x => !isRow x).map id)) (.list []) = some (.bool (!rows.all isRow)) := by
              rw [ne_list_nil, filt_empty]
              rw [List.map_id]
              exact decide_eq_true (by
                rw [PyData.depth]
                have := depth_all k (ds := rows.filter fun x => !isRow x) fun x hx => (memT hr (List.mem_filter.mp hx).1).k
                omega)
            cases c3 : rows.all isRow with
            | false =>
              rw [c3] at ne
              unfold isRights
              simp?! only [l3, w1, w2, c1, c2, ρ, k1, ne, c3]
            | true =>
              rw [c3] at ne
              have k2 : mComp ((m2 gIx (mSlot 0) ((M.ret (.int 2)).bind fun d => M.ret (.dat d))).bind seqItems) (tName 1) (M.ret true) m_is_lot_e3 [1] ρ = .ok (.ol (rows.map key0)) ρ := by
                refine comp_pure (f := id) key0 (by rw [List.map_id]; simp?! only [ρ]) (by omega) fun x hx => ⟨[some (.sh (.tuple [a, b, .tuple rows])), some (.sh x)], [some (.sh (.tuple [a, b, .tuple rows])), some (.sh x)], rfl, ?_, rfl⟩
                obtain ⟨rest, e, _⟩ := row_key (List.all_eq_true.mp c3 x hx)
                have := gIx_key e
                unfold m_is_lot_e3
                simp?! only [this]
              have kr := rise_any (ds := rows.map key0) (by rw [List.length_map]; exact hrl) (rows_cmp c3).1 (rows_cmp c3).2
              unfold isRights
              simp?! only [l3, w1, w2, c1, c2, ρ, k1, k2, ne, c3, kr]
          | dict kvs => have := hr.g; simp [good] at this
          | _ => unfold isRights; simp?! only [l3, w1, w2, c1, c2]
theorem is_heard_any (h : Th q n k d) (hn : n ≤ 200000) : fn_is_heard [some (.sh d)] = .ok (.sh (.bool (isHeard d))) [none] := by
  have z := sizeLine_eq
  cases d with
  | tuple rows =>
    have hrl : rows.length ≤ 100000 := by have := h.ofTup.2.2.len; omega
    let ρ : Rho := [some (.sh (.tuple rows)), none]
    have k1 : mComp ((mName 0).bind seqItems) (tName 1) (M.ret true) m_is_heard_e1 [1] ρ = .ok (.ol (rows.map fun x => .bool (isTold x))) ρ := by
      refine comp_pure (f := id) (fun x => .bool (isTold x)) (by rw [List.map_id]; simp?! only [ρ]) (by omega) fun x hx => ⟨[some (.sh (.tuple rows)), some (.sh x)], [some (.sh (.tuple rows)), some (.sh x)], rfl, ?_, rfl⟩
      have := told_any (memT h hx) (by omega)
      unfold m_is_heard_e1
      simp?! only [this]
    have ga := gAll_map isTold rows
    unfold fn_is_heard m_is_heard isHeard
    cases c0 : rows.isEmpty with
    | true => simp?! only [c0]
    | false =>
      cases c3 : rows.all isTold with
      | false =>
        rw [c3] at ga
        simp?! only [c0, ρ, k1, ga, c3]
      | true =>
        rw [c3] at ga
        have k2 : mComp ((mName 0).bind seqItems) (tName 1) (M.ret true) m_is_heard_e2 [1] ρ = .ok (.ol (rows.map key0)) ρ := by
          refine comp_pure (f := id) key0 (by rw [List.map_id]; simp?! only [ρ]) (by omega) fun x hx => ⟨[some (.sh (.tuple rows)), some (.sh x)], [some (.sh (.tuple rows)), some (.sh x)], rfl, ?_, rfl⟩
          obtain ⟨rest, s, e, _⟩ := told_key (List.all_eq_true.mp c3 x hx)
          have := gIx_key e
          unfold m_is_heard_e2
          simp?! only [this]
        have kr := rises_ok (ds := rows.map key0) (by rw [List.length_map]; exact hrl) (tolds_cmp c3).1
        simp?! only [c0, ρ, k1, k2, ga, c3, kr]
  | dict kvs => have := h.g; simp [good] at this
  | _ => unfold fn_is_heard m_is_heard isHeard; simp?! only []
theorem is_news_any (h : Th q n k d) (hn : n ≤ 200000) (hk : k ≤ 59) : fn_is_news [some (.sh d)] = .ok (.sh (.bool (isHeard d))) [none] := by
  have z := sizeLine_eq
  cases d with
  | tuple rows =>
    have hrl : rows.length ≤ 100000 := by have := h.ofTup.2.2.len; omega
    let ρ : Rho := [some (.sh (.tuple rows)), none]
    have k1 : mComp ((mName 0).bind seqItems) (tName 1) m_is_news_t2 m_is_news_e1 [1] ρ = .ok (.ol ((rows.filter fun x => !isTold x).map id)) ρ := by
      refine comp_filt (f := id) (fun x => !isTold x) id (by rw [List.map_id]; simp?! only [ρ]) (by omega) fun x hx => ⟨[some (.sh (.tuple rows)), some (.sh x)], [some (.sh (.tuple rows)), some (.sh x)], rfl, ?_, rfl, fun _ => ⟨[some (.sh (.tuple rows)), some (.sh x)], ?_, rfl⟩⟩
      · have := triple_any (memT h hx) (by omega)
        unfold m_is_news_t2
        cases c : isTold x <;> (rw [c] at this; simp?! only [this])
      · unfold m_is_news_e1
        simp?! only [id]
    have ne : gNe (.list ((rows.filter fun x => !isTold x).map id)) (.list []) = some (.bool (!rows.all isTold)) := by
      rw [ne_list_nil, filt_empty]
      rw [List.map_id]
      exact decide_eq_true (by
        rw [PyData.depth]
        have := depth_all k (ds := rows.filter fun x => !isTold x) fun x hx => (memT h (List.mem_filter.mp hx).1).k
        omega)
    have ee : gEq (.tuple rows) (.tuple []) = some (.bool rows.isEmpty) := eq_tuple_nil (decide_eq_true (by have := h.k; omega))
    unfold fn_is_news m_is_news isHeard
    cases c0 : rows.isEmpty with
    | true => rw [c0] at ee; simp?! only [ee, c0]
    | false =>
      rw [c0] at ee
      cases c3 : rows.all isTold with
      | false =>
        rw [c3] at ne
        simp?! only [ee, c0, ρ, k1, ne, c3]
      | true =>
        rw [c3] at ne
        have k2 : mComp ((mName 0).bind seqItems) (tName 1) (M.ret true) m_is_news_e3 [1] ρ = .ok (.ol (rows.map key0)) ρ := by
          refine comp_pure (f := id) key0 (by rw [List.map_id]; simp?! only [ρ]) (by omega) fun x hx => ⟨[some (.sh (.tuple rows)), some (.sh x)], [some (.sh (.tuple rows)), some (.sh x)], rfl, ?_, rfl⟩
          obtain ⟨rest, s, e, _⟩ := told_key (List.all_eq_true.mp c3 x hx)
          have := gIx_key e
          unfold m_is_news_e3
          simp?! only [this]
        have kr := rise_any (ds := rows.map key0) (by rw [List.length_map]; exact hrl) (tolds_cmp c3).1 (tolds_cmp c3).2
        simp?! only [ee, c0, ρ, k1, k2, ne, c3, kr]
  | dict kvs => have := h.g; simp [good] at this
  | _ => unfold fn_is_news m_is_news isHeard; simp?! only []
end
end Lw
set_option exponentiation.threshold 10000
namespace Eg
open PySem L2 PySem.W PySem.SeqAt
/-! ## plain texts -/
def asc (x : Str) : Bool := x.cps.toList.all fun c => decide (c < 128)
mutual
def sOk (s : Nat) : PyData → Bool
  | .str x => decide (x.length ≤ s) && asc x
  | .list ds => sOkAll s ds
  | .tuple ds => sOkAll s ds
  | _ => true
def sOkAll (s : Nat) : List PyData → Bool
  | [] => true
  | d :: ds => sOk s d && sOkAll s ds
end
theorem sOkAll_mem {s : Nat} : ∀ {ds : List PyData}, sOkAll s ds = true ↔ ∀ d ∈ ds, sOk s d = true
  | [] => by simp [sOkAll]
  | d :: ds => by
    rw [sOkAll, Bool.and_eq_true, sOkAll_mem]
    simp
mutual
theorem sOk_mono {s s' : Nat} (h : s ≤ s') : ∀ d : PyData, sOk s d = true → sOk s' d = true
  | .str x, q => by
    rw [sOk, Bool.and_eq_true, decide_eq_true_iff] at q ⊢
    exact ⟨by omega, q.2⟩
  | .list ds, q => by rw [sOk] at q ⊢; exact sOkAll_mono h ds q
  | .tuple ds, q => by rw [sOk] at q ⊢; exact sOkAll_mono h ds q
  | .none, _ => by rw [sOk] <;> (intros; simp_all)
  | .bool _, _ => by rw [sOk] <;> (intros; simp_all)
  | .int _, _ => by rw [sOk] <;> (intros; simp_all)
  | .dict _, _ => by rw [sOk] <;> (intros; simp_all)
theorem sOkAll_mono {s s' : Nat} (h : s ≤ s') : ∀ ds : List PyData, sOkAll s ds = true → sOkAll s' ds = true
  | [], _ => by rw [sOkAll]
  | d :: ds, q => by
    rw [sOkAll, Bool.and_eq_true] at q ⊢
    exact ⟨sOk_mono h d q.1, sOkAll_mono h ds q.2⟩
end
theorem asc_at {x : Str} (h : asc x = true) : ∀ c ∈ x.cps.toList, c < 128 := fun c hc => of_decide_eq_true (List.all_eq_true.mp h c hc)
theorem asc_wt {x : Str} {s : Nat} (h : asc x = true) (hl : x.length ≤ s) : wt (.str x) ≤ 11 * s + 4 := by
  have := StrLaws.reprText_len x fun c hc => by have := asc_at h c hc; omega
  rw [wt, PyData.shown]
  omega
theorem Th.asc {q k s : Nat} {x : Str} (h : asc x = true) (hl : x.length ≤ s) (hq : q ≤ 400) : Th q (11 * s + 4) k (.str x) :=
  ⟨asc_wt h hl, by rw [PyData.depth]; exact Nat.zero_le _, by rw [good], hq⟩
theorem asc_app {x y : Str} (hx : asc x = true) (hy : asc y = true) : asc (x ++ y) = true := by
  unfold asc at *
  rw [PyProof.Rows.cps_toList_append, List.all_append, hx, hy]
  rfl
theorem asc_cut {x : Str} (hx : asc x = true) (lo hi : Option Int) : asc (cutS x lo hi) = true := by
  refine List.all_eq_true.mpr fun c hc => decide_eq_true (asc_at hx c ?_)
  unfold cutS at hc
  simp only [Array.toList_extract, List.toList_toArray] at hc
  first
    | exact List.mem_of_mem_drop (List.mem_of_mem_take hc)
    | exact List.mem_of_mem_take (List.mem_of_mem_drop hc)
theorem asc_upper {x : Str} (hx : asc x = true) : asc (Txt.upper x) = true ∧ (Txt.upper x).length = x.length := by
  have key : ∀ l : List Nat, (∀ c ∈ l, c < 128) → asc (Txt.upper ⟨l.toArray⟩) = true ∧ (Txt.upper ⟨l.toArray⟩).length = l.length := by
    intro l
    induction l with
    | nil => intro _; decide +kernel
    | cons c l ih =>
      intro h
      have hc := h c List.mem_cons_self
      have i := ih fun d hd => h d (List.mem_cons_of_mem _ hd)
      have e : (⟨(c :: l).toArray⟩ : Str) = ⟨#[c]⟩ ++ ⟨l.toArray⟩ := PySem.Str.ext' (by rw [PySem.Str.cps_append]; simp)
      rw [e, KOpn.upper_app, KOpn.upper_one hc]
      refine ⟨asc_app ?_ i.1, ?_⟩
      · unfold asc
        simp only [List.all_cons, List.all_nil, Bool.and_true, decide_eq_true_iff]
        split <;> omega
      · show ((⟨#[if 97 ≤ c ∧ c ≤ 122 then c - 32 else c]⟩ : Str) ++ Txt.upper ⟨l.toArray⟩).cps.size = _
        rw [PySem.Str.cps_append, Array.size_append]
        have i2 : (Txt.upper ⟨l.toArray⟩).cps.size = l.length := i.2
        rw [i2]
        show 1 + l.length = l.length + 1
        omega
  have := key x.cps.toList (asc_at hx)
  rw [show (⟨x.cps.toList.toArray⟩ : Str) = x from rfl] at this
  exact ⟨this.1, by rw [this.2]; simp [Str.length]⟩
theorem asc_int {i : Int} {q : Nat} (h : i.natAbs < 10 ^ q) (h0 : 0 < q) : asc (Str.ofString (toString i)) = true ∧ (Str.ofString (toString i)).length ≤ q + 1 := by
  constructor
  · unfold asc
    rw [PySem.Str.ofString_eq_toList]
    refine List.all_eq_true.mpr fun c hc => decide_eq_true ?_
    obtain ⟨ch, hch, rfl⟩ := List.mem_map.mp hc
    rcases PyProof.Rows.int_sign i ch hch with h | rfl
    · simp only [Char.isDigit, Bool.and_eq_true, decide_eq_true_iff] at h
      have := h.2
      have e : ch.toNat = ch.val.toNat := rfl
      have h2 : ch.val.toNat ≤ 57 := this
      omega
    · decide
  · rw [ofString_length]
    cases i with
    | ofNat m =>
      show (Nat.repr m).length ≤ q + 1
      have : (Nat.repr m).length ≤ q := (Nat.length_repr_le_iff h0).mpr h
      omega
    | negSucc m =>
      show ("-" ++ Nat.repr (m + 1)).length ≤ q + 1
      rw [String.length_append]
      have := (Nat.length_repr_le_iff h0).mpr h
      have h2 : ("-" : String).length = 1 := rfl
      have h3 : (Nat.repr (m + 1)).length ≤ q := this
      omega
theorem log_of {i : Int} (h : i.natAbs < 10 ^ 100) : i.natAbs.log2 < 1920 := by
  by_cases h0 : i.natAbs = 0
  · rw [h0]; decide
  · exact (Nat.log2_lt h0).mpr (Nat.lt_trans h (by decide))
end Eg
set_option exponentiation.threshold 10000
namespace Eg
open PySem L2 PySem.W PySem.SeqAt
theorem aAddB_ii (i j : Int) : aAddB (.int i) (.int j) = some (.sh (.int (i + j))) := rfl
theorem aAddB_bi (b : Bool) (j : Int) : aAddB (.bool b) (.int j) = some (.sh (.int ((if b = true then 1 else 0) + j))) := rfl
theorem aAddB_tt {xs ys : List PyData} (h : xs.length + ys.length ≤ sizeLine) : aAddB (.tuple xs) (.tuple ys) = some (.sh (.tuple (xs ++ ys))) := aAdd_tt h
theorem aAddB_ss {x y : Str} (h : x.length + y.length ≤ sizeLine) : aAddB (.str x) (.str y) = some (.sh (.str (x ++ y))) := by
  simp only [aAddB, aAdd]
  rw [if_pos h]
theorem gInt_i (i : Int) : gInt [.int i] = some (.sh (.int i)) := rfl
theorem gInt_b (b : Bool) : gInt [.bool b] = some (.sh (.int (if b = true then 1 else 0))) := rfl
theorem gStr_b (k : Bool) : gStr [.bool k] = some (.sh (.str (if k = true then "True" else "False"))) := rfl
theorem gStr_i {i : Int} (h : i.natAbs < 10 ^ 100) : gStr [.int i] = some (.sh (.str (Str.ofString (toString i)))) := by
  simp only [gStr]
  rw [if_pos (log_of h)]
theorem gSl_s {z : Str} (h : z.length ≤ sizeLine) (lo hi : Option Int) : gSl (.str z) lo hi = some (.sh (.str (cutS z lo hi))) := by
  simp only [gSl]
  rw [if_pos h]
theorem gUpper_s {x : Str} (h : x.length ≤ 5592405) : gUpper (.str x) = some (.str (Txt.upper x)) := by
  simp only [gUpper]
  rw [if_pos h]
theorem gEq_b0 (b : Bool) : gEq (.bool b) (.int 0) = some (.bool (!b)) := by
  unfold gEq
  rw [if_pos (by simp [small, PyData.depth])]
  cases b <;> simp [PyData.eqv]
theorem cut_sub (ds : List PyData) (lo hi : Option Int) : List.Sublist (cutD ds lo hi) ds := by
  unfold cutD
  exact (List.take_sublist _ _).trans (List.drop_sublist _ _)
theorem sT {s : Nat} {ds : List PyData} (h : ∀ d ∈ ds, sOk s d = true) : sOk s (.tuple ds) = true := by rw [sOk]; exact sOkAll_mem.mpr h
theorem sL {s : Nat} {ds : List PyData} (h : ∀ d ∈ ds, sOk s d = true) : sOk s (.list ds) = true := by rw [sOk]; exact sOkAll_mem.mpr h
theorem sTo {s : Nat} {ds : List PyData} (h : sOk s (.tuple ds) = true) : ∀ d ∈ ds, sOk s d = true := by rw [sOk] at h; exact sOkAll_mem.mp h
theorem sI (s : Nat) (i : Int) : sOk s (.int i) = true := by rw [sOk] <;> (intros; simp_all)
theorem sBo (s : Nat) (i : Bool) : sOk s (.bool i) = true := by rw [sOk] <;> (intros; simp_all)
theorem sS {s : Nat} {x : Str} (h : asc x = true) (hl : x.length ≤ s) : sOk s (.str x) = true := by rw [sOk, h, decide_eq_true hl]; rfl
theorem sSo {s : Nat} {x : Str} (h : sOk s (.str x) = true) : x.length ≤ s ∧ asc x = true := by rw [sOk, Bool.and_eq_true, decide_eq_true_iff] at h; exact h
end Eg
namespace Lw
open PySem L2 PySem.W PySem.SeqAt Eg
def odd15 : List PyData := [.none, .bool true, .bool false, .int 0, .int 1, .int (-1), .int (10 ^ (50 : Int).toNat), .str "", .str "a", .str "A", .str "abcdefghi", .tuple [], .list [], .tuple [.str "a", .str "b"], .list [.str "a"]]
def odd16 : List PyData := [.none, .bool true, .bool false, .int 0, .int 1, .int (-1), .int (10 ^ (50 : Int).toNat), .str "", .str "a", .str "A", .str "abcdefghi", .tuple [], .list [], .tuple [.str "a", .str "b"], .list [.str "a"], .tuple [.tuple [.str "a", .str "b"], .tuple [.str "a", .str "c"]]]
theorem odd_all : ∀ d ∈ odd16, thB 51 80 2 d = true ∧ sOk 10 d = true := by decide +kernel
theorem odd_ok {kvs : List (Key × PyData)} {n q : Nat} (h : TapAt kvs n) (hn : n < 900000) (hq : 51 ≤ q) (h4 : q ≤ 400) : ∃ d kvs', Th q 80 2 d ∧ sOk 10 d = true ∧ TapAt kvs' (n + 1) ∧ fn_odd [some (.od kvs)] = .ok (.sh d) [some (.od kvs')] := by
  have p50 : gPow (.int 10) (.int 50) = some (.int (10 ^ (50 : Int).toNat)) := gPow_int (by decide)
  have l15 : lstG odd15 = some (.ol odd15) := lstG_ok (by decide)
  obtain ⟨v, kvs', v0, v1, t1, e1⟩ := take_at (many := 16) h (by omega) (by decide) (by decide)
  obtain ⟨d, hd, e2⟩ := gIx_mem (l := odd16) v0 (by exact v1)
  have := odd_all d hd
  refine ⟨d, kvs', (Th.ofB this.1 (by decide)).mono (Nat.le_refl _) (Nat.le_refl _) hq h4, this.2, t1, ?_⟩
  have ll : odd15.length < sizeLine := by
    have z := sizeLine_eq
    have : odd15.length = 15 := rfl
    omega
  unfold odd15 at l15 ll
  unfold odd16 at e2
  unfold fn_odd m_odd
  simp?! only [p50, l15, ll, e1, e2]
theorem fig_up {q : Nat} {i j : Int} (h : i.natAbs < 10 ^ q) (hj : j.natAbs ≤ 1) : (i + j).natAbs < 10 ^ (q + 1) := by
  have : 10 ^ (q + 1) = 10 * 10 ^ q := by rw [Nat.pow_succ]; omega
  have : 1 ≤ 10 ^ q := Nat.one_le_pow _ _ (by decide)
  omega
/-- where nothing deeper is bent -/
def bendFirst (self : Fn) : M Out := sIf (mAnd ((m1 (gIsi "tuple") (mSlot 1)).bind truD) (mAnd ((m2 gNe (mSlot 1) ((mFix tupG (mNil)).bind fun d => M.ret (.dat d))).bind asBool) (mAnd ((m2 gGt (mSlot 2) ((M.ret (.int 0)).bind fun d => M.ret (.dat d))).bind asBool) ((m2 gGt (((mCallO fn_take (mCons (mSlot 0) (mCons ((M.ret (.int 3)).bind fun d => M.ret (.dat d)) (mNil)))).bind fz).bind fun d => M.ret (.dat d)) ((M.ret (.int 0)).bind fun d => M.ret (.dat d))).bind asBool)))) (sSeq (sSet 3 (mCallO fn_take (mCons (mSlot 0) (mCons (((mL gLen (mCons (mSlot 1) (mNil))).bind fz).bind fun d => M.ret (.dat d)) (mNil))))) (sRet (m2 aAddB (((m2 aAddB (((mSl (mSlot 1) (M.ret none) ((mName 3).bind fun d => (asInt d).bind fun i => M.ret (some i))).bind fz).bind fun d => M.ret (.dat d)) ((mFix tupG (mCons (((mCallO self (mCons (mSlot 0) (mCons ((m2 gIx (mSlot 1) (mSlot 3)).bind fun d => M.ret (.dat d)) (mCons ((m2 gSub (mSlot 2) ((M.ret (.int 1)).bind fun d => M.ret (.dat d))).bind fun d => M.ret (.dat d)) (mNil))))).bind fz).bind fun d => M.ret (.dat d)) (mNil))).bind fun d => M.ret (.dat d))).bind fz).bind fun d => M.ret (.dat d)) (((mSl (mSlot 1) (((m2 aAddB (mSlot 3) ((M.ret (.int 1)).bind fun d => M.ret (.dat d))).bind fz).bind fun d => (asInt d).bind fun i => M.ret (some i)) (M.ret none)).bind fz).bind fun d => M.ret (.dat d))))) (sNext)
def bendRest : M Out := sSeq (sSet 4 (mCallO fn_take (mCons (mSlot 0) (mCons ((M.ret (.int 7)).bind fun d => M.ret (.dat d)) (mNil))))) (sSeq (sIf ((m1 (gIsi "tuple") (mSlot 1)).bind truD) (sSeq (sSet 3 (mCallO fn_take (mCons (mSlot 0) (mCons (((m2 aAddB (((mL gLen (mCons (mSlot 1) (mNil))).bind fz).bind fun d => M.ret (.dat d)) ((M.ret (.int 1)).bind fun d => M.ret (.dat d))).bind fz).bind fun d => M.ret (.dat d)) (mNil))))) (sSeq (sIf ((m2 gEq (mSlot 4) ((M.ret (.int 3)).bind fun d => M.ret (.dat d))).bind asBool) (sRet (m2 aAddB (((m2 aAddB (((mSl (mSlot 1) (M.ret none) ((mName 3).bind fun d => (asInt d).bind fun i => M.ret (some i))).bind fz).bind fun d => M.ret (.dat d)) ((mFix tupG (mCons (((mCallO fn_odd (mCons (mSlot 0) (mNil))).bind fz).bind fun d => M.ret (.dat d)) (mNil))).bind fun d => M.ret (.dat d))).bind fz).bind fun d => M.ret (.dat d)) (((mSl (mSlot 1) ((mName 3).bind fun d => (asInt d).bind fun i => M.ret (some i)) (M.ret none)).bind fz).bind fun d => M.ret (.dat d)))) (sNext)) (sSeq (sIf ((m2 gLt (mSlot 4) ((M.ret (.int 5)).bind fun d => M.ret (.dat d))).bind asBool) (sRet ((m2 gIx (((mFix lstG (mCons (((mL gList (mCons (mSlot 1) (mNil))).bind fz).bind fun d => M.ret (.dat d)) (mCons (((m2 aAddB (((mSl (mSlot 1) (M.ret none) ((mName 3).bind fun d => (asInt d).bind fun i => M.ret (some i))).bind fz).bind fun d => M.ret (.dat d)) (((mSl (mSlot 1) (((m2 aAddB (mSlot 3) ((M.ret (.int 1)).bind fun d => M.ret (.dat d))).bind fz).bind fun d => (asInt d).bind fun i => M.ret (some i)) (M.ret none)).bind fz).bind fun d => M.ret (.dat d))).bind fz).bind fun d => M.ret (.dat d)) (mCons (((m2 aAddB (((m2 aAddB (((mSl (mSlot 1) (M.ret none) ((mName 3).bind fun d => (asInt d).bind fun i => M.ret (some i))).bind fz).bind fun d => M.ret (.dat d)) (((mSl (mSlot 1) ((mName 3).bind fun d => (asInt d).bind fun i => M.ret (some i)) (((m2 aAddB (mSlot 3) ((M.ret (.int 1)).bind fun d => M.ret (.dat d))).bind fz).bind fun d => (asInt d).bind fun i => M.ret (some i))).bind fz).bind fun d => M.ret (.dat d))).bind fz).bind fun d => M.ret (.dat d)) (((mSl (mSlot 1) ((mName 3).bind fun d => (asInt d).bind fun i => M.ret (some i)) (M.ret none)).bind fz).bind fun d => M.ret (.dat d))).bind fz).bind fun d => M.ret (.dat d)) (mCons ((mFix tupG (mNil)).bind fun d => M.ret (.dat d)) (mCons (((m1 gRev2 (mSlot 1)).bind fz).bind fun d => M.ret (.dat d)) (mNil))))))).bind fz).bind fun d => M.ret (.dat d)) (mSlot 4)).bind fun d => M.ret (.sh d))) (sNext)) (sRet (mCallO fn_odd (mCons (mSlot 0) (mNil))))))) (sNext)) (sSeq (sIf (mAnd ((m1 (gIsi "int") (mSlot 1)).bind truD) ((m2 gLt (mSlot 4) ((M.ret (.int 4)).bind fun d => M.ret (.dat d))).bind asBool)) (sRet ((m2 gIx (((mFix lstG (mCons (((m2 aAddB (mSlot 1) ((M.ret (.int 1)).bind fun d => M.ret (.dat d))).bind fz).bind fun d => M.ret (.dat d)) (mCons ((m2 gEq (mSlot 1) ((M.ret (.int 0)).bind fun d => M.ret (.dat d))).bind fun d => M.ret (.dat d)) (mCons (((mL gInt (mCons (mSlot 1) (mNil))).bind fz).bind fun d => M.ret (.dat d)) (mCons (((mL gStr (mCons (mSlot 1) (mNil))).bind fz).bind fun d => M.ret (.dat d)) (mNil)))))).bind fz).bind fun d => M.ret (.dat d)) (mSlot 4)).bind fun d => M.ret (.sh d))) (sNext)) (sSeq (sIf (mAnd ((m1 (gIsi "str") (mSlot 1)).bind truD) ((m2 gLt (mSlot 4) ((M.ret (.int 3)).bind fun d => M.ret (.dat d))).bind asBool)) (sRet ((m2 gIx (((mFix lstG (mCons (((m2 aAddB (mSlot 1) ((M.ret (.str "a")).bind fun d => M.ret (.dat d))).bind fz).bind fun d => M.ret (.dat d)) (mCons (((mSl (mSlot 1) ((M.ret (.int 1)).bind fun d => (asInt d).bind fun i => M.ret (some i)) (M.ret none)).bind fz).bind fun d => M.ret (.dat d)) (mCons ((m1 gUpper (mSlot 1)).bind fun d => M.ret (.dat d)) (mNil))))).bind fz).bind fun d => M.ret (.dat d)) (mSlot 4)).bind fun d => M.ret (.sh d))) (sNext)) (sRet (mCallO fn_odd (mCons (mSlot 0) (mNil)))))))
def bendWay (ρ : Rho) : Res OD := Res.fin [true, false, false] (bendRest ρ)
theorem bend_ok : ∀ (r : Nat) {deep : Int} {kvs : List (Key × PyData)} {n q w k s : Nat} {d : PyData}, 0 ≤ deep → deep < (r : Int) → TapAt kvs n → n + 5 * r < 900000 → Th q w k d → sOk s d = true → 51 ≤ q → q < 90 → 10 ≤ s → s ≤ 1000 → w ≤ 100000 → k ≤ 50 →
    ∃ d' kvs', Th (q + 1) (2 * w + 40 * s + 1100) (k + 2) d' ∧ sOk (s + q + 12) d' = true ∧ TapAt kvs' (n + 5 * r) ∧ fn_bend r [some (.od kvs), some (.sh d), some (.sh (.int deep))] = .ok (.sh d') [some (.od kvs'), none, none]
  | 0, _, _, _, _, _, _, _, _, h0, h1, _, _, _, _, _, _, _, _, _, _ => by omega
  | r + 1, deep, kvs, n, q, w, k, s, d, h0, h1, ht, hn, h, hs, hq, hq2, hs1, hs2, hw, hk => by
    have z := sizeLine_eq
    have od : ∀ {kv : List (Key × PyData)} {m : Nat}, TapAt kv m → m ≤ n + 4 → ∃ d' kvs', Th (q + 1) 80 2 d' ∧ sOk (s + q + 12) d' = true ∧ TapAt kvs' (n + 5 * (r + 1)) ∧ fn_odd [some (.od kv)] = .ok (.sh d') [some (.od kvs')] := by
      intro kv m hy hm
      obtain ⟨d', kvs', a, b, c, e⟩ := odd_ok (q := q + 1) hy (by omega) (by omega) (by omega)
      exact ⟨d', kvs', a, sOk_mono (by omega) _ b, c.mono (by omega), e⟩
    match d, h, hs with
    | .none, h, hs =>
      obtain ⟨y, kv1, y0, y1, t1, e1⟩ := take_at (many := 7) ht (by omega) (by decide) (by decide)
      obtain ⟨d', kvs', a, b, c, e⟩ := od t1 (by omega)
      refine ⟨d', kvs', a.mono (by omega) (by omega) (Nat.le_refl _), b, c, ?_⟩
      unfold fn_bend m_bend
      simp?! only [e1, e]
    | .list ds, h, hs =>
      obtain ⟨y, kv1, y0, y1, t1, e1⟩ := take_at (many := 7) ht (by omega) (by decide) (by decide)
      obtain ⟨d', kvs', a, b, c, e⟩ := od t1 (by omega)
      refine ⟨d', kvs', a.mono (by omega) (by omega) (Nat.le_refl _), b, c, ?_⟩
      unfold fn_bend m_bend
      simp?! only [e1, e]
    | .dict kk, h, hs => have := h.g; simp [good] at this
    | .int i, h, hs =>
      obtain ⟨y, kv1, y0, y1, t1, e1⟩ := take_at (many := 7) ht (by omega) (by decide) (by decide)
      cases hy : decide (y < 4) with
      | false =>
        obtain ⟨d', kvs', a, b, c, e⟩ := od t1 (by omega)
        refine ⟨d', kvs', a.mono (by omega) (by omega) (Nat.le_refl _), b, c, ?_⟩
        unfold fn_bend m_bend
        simp?! only [e1, e, hy]
      | true =>
        have fg := h.figs
        have f1 := fig_up fg (j := 1) (by decide)
        have hp : i.natAbs < 10 ^ 100 := Nat.lt_of_lt_of_le fg (Nat.pow_le_pow_right (by decide) (by omega))
        have gs := gStr_i hp
        obtain ⟨d', hd', g⟩ := gIx_mem (l := [.int (i + 1), .bool (decide (i = 0)), .int i, .str (Str.ofString (toString i))]) y0 (by have := of_decide_eq_true hy; simpa using this)
        have ai := asc_int fg (by omega)
        have td : Th (q + 1) (2 * w + 40 * s + 1100) (k + 2) d' ∧ sOk (s + q + 12) d' = true := by
          simp only [List.mem_cons, List.not_mem_nil, or_false] at hd'
          rcases hd' with rfl | rfl | rfl | rfl
          · exact ⟨(Th.int f1 (Nat.le_refl _) (by omega) (by omega)).mono (by omega) (by omega) (Nat.le_refl _), sI _ _⟩
          · exact ⟨(Th.bool _ (by omega)).mono (by omega) (by omega) (Nat.le_refl _), sBo _ _⟩
          · exact ⟨h.mono (by omega) (by omega), sI _ _⟩
          · exact ⟨(Th.asc (k := 0) ai.1 ai.2 (by omega)).mono (by omega) (by omega) (Nat.le_refl _), sS ai.1 (by omega)⟩
        refine ⟨d', kv1, td.1, td.2, t1.mono (by omega), ?_⟩
        unfold fn_bend m_bend
        simp?! only [e1, hy, aAddB_ii, gInt_i, gs, g]
    | .bool i, h, hs =>
      obtain ⟨y, kv1, y0, y1, t1, e1⟩ := take_at (many := 7) ht (by omega) (by decide) (by decide)
      cases hy : decide (y < 4) with
      | false =>
        obtain ⟨d', kvs', a, b, c, e⟩ := od t1 (by omega)
        refine ⟨d', kvs', a.mono (by omega) (by omega) (Nat.le_refl _), b, c, ?_⟩
        unfold fn_bend m_bend
        simp?! only [e1, e, hy]
      | true =>
        obtain ⟨d', hd', g⟩ := gIx_mem (l := [.int ((if i = true then 1 else 0) + 1), .bool (!i), .int (if i = true then 1 else 0), .str (if i = true then "True" else "False")]) y0 (by have := of_decide_eq_true hy; simpa using this)
        have td : Th (q + 1) (2 * w + 40 * s + 1100) (k + 2) d' ∧ sOk (s + q + 12) d' = true := by
          have : ∀ (i : Bool), ∀ d' ∈ [PyData.int ((if i = true then 1 else 0) + 1), .bool (!i), .int (if i = true then 1 else 0), .str (if i = true then "True" else "False")], thB 51 80 2 d' = true ∧ sOk 10 d' = true := by decide +kernel
          have := this i d' hd'
          exact ⟨(Th.ofB this.1 (by decide)).mono (by omega) (by omega) (by omega) (by omega), sOk_mono (by omega) _ this.2⟩
        refine ⟨d', kv1, td.1, td.2, t1.mono (by omega), ?_⟩
        unfold fn_bend m_bend
        simp?! only [e1, hy, aAddB_bi, gInt_b, gStr_b, gEq_b0, g]
    | .str x, h, hs =>
      obtain ⟨hx, ha⟩ := sSo hs
      obtain ⟨y, kv1, y0, y1, t1, e1⟩ := take_at (many := 7) ht (by omega) (by decide) (by decide)
      cases hy : decide (y < 3) with
      | false =>
        obtain ⟨d', kvs', a, b, c, e⟩ := od t1 (by omega)
        refine ⟨d', kvs', a.mono (by omega) (by omega) (Nat.le_refl _), b, c, ?_⟩
        unfold fn_bend m_bend
        simp?! only [e1, e, hy]
      | true =>
        have a1 : aAddB (.str x) (.str "a") = some (.sh (.str (x ++ "a"))) := aAddB_ss (by have : ("a" : Str).length = 1 := by decide +kernel
                                                                                           omega)
        have a2 := gSl_s (z := x) (by omega) (some 1) none
        have a3 := gUpper_s (x := x) (by omega)
        obtain ⟨d', hd', g⟩ := gIx_mem (l := [.str (x ++ "a"), .str (L2.cutS x (some 1) none), .str (Txt.upper x)]) y0 (by have := of_decide_eq_true hy; simpa using this)
        have td : Th (q + 1) (2 * w + 40 * s + 1100) (k + 2) d' ∧ sOk (s + q + 12) d' = true := by
          have hh : ∀ y : Str, asc y = true → y.length ≤ s + 1 → Th (q + 1) (2 * w + 40 * s + 1100) (k + 2) (.str y) ∧ sOk (s + q + 12) (.str y) = true := fun y hy hl =>
            ⟨(Th.asc (k := 0) hy hl (by omega)).mono (by omega) (by omega) (Nat.le_refl _), sS hy (by omega)⟩
          simp only [List.mem_cons, List.not_mem_nil, or_false] at hd'
          rcases hd' with rfl | rfl | rfl
          · refine hh _ (asc_app ha (by decide +kernel)) ?_
            show (x ++ ("a" : Str)).cps.size ≤ s + 1
            rw [PySem.Str.cps_append, Array.size_append]
            have h1 : x.cps.size ≤ s := hx
            have h2 : ("a" : Str).cps.size = 1 := by decide +kernel
            omega
          · exact hh _ (asc_cut ha _ _) (by have := L2.cutS_length x (some 1) none; omega)
          · exact hh _ (asc_upper ha).1 (by rw [(asc_upper ha).2]; omega)
        refine ⟨d', kv1, td.1, td.2, t1.mono (by omega), ?_⟩
        unfold fn_bend m_bend
        simp?! only [e1, hy, a1, a2, a3, v_ai2, g]
    | .tuple ds, h, hs =>
      obtain ⟨w3, k1, ths⟩ := h.ofTup
      have hl := ths.len
      have sds := sTo hs
      have sm : small (.tuple ds) = true := decide_eq_true (Nat.le_trans h.k (by omega))
      have nt := ne_tuple_nil sm
      have bend_way : ∀ {kv : List (Key × PyData)} {m : Nat}, TapAt kv m → m ≤ n + 2 → ∃ d' kvs', Th (q + 1) (2 * w + 40 * s + 1100) (k + 2) d' ∧ sOk (s + q + 12) d' = true ∧ TapAt kvs' (n + 5 * (r + 1)) ∧
          bendWay [some (.od kv), some (.sh (.tuple ds)), some (.sh (.int deep)), none, none] = .ok (.sh d') [some (.od kvs'), none, none] := by
        intro kv m hy hm
        obtain ⟨y, kv1, y0, y1, t1, e1⟩ := take_at (many := 7) hy (by omega) (by decide) (by decide)
        obtain ⟨v, kv2, v0, v1, t2, e2⟩ := take_at (many := (ds.length : Int) + 1) t1 (by omega) (by omega) (by omega)
        have c1 := cut_to (ds := ds) v0
        have c2 := cut_fr (ds := ds) v0
        have c3 := cut_sub ds (some (v + 1)) none
        have c4 := cut_sub ds (some v) (some (v + 1))
        have hA : Ths q w (k - 1) (ds.take v.toNat) := (ths.sub (List.take_sublist _ _)).mono (by omega) (Nat.le_refl _) (Nat.le_refl _) h.m
        have hB : Ths q w (k - 1) (ds.drop v.toNat) := (ths.sub (List.drop_sublist _ _)).mono (by omega) (Nat.le_refl _) (Nat.le_refl _) h.m
        have ll : (ds.take v.toNat).length + (ds.drop v.toNat).length = ds.length := by rw [← List.length_append, List.take_append_drop]
        cases h3 : decide (y = 3) with
        | true =>
          obtain ⟨x, kvs', a, b, c, e⟩ := od t2 (by omega)
          have b1 : aAddB (.tuple (ds.take v.toNat)) (.tuple [x]) = some (.sh (.tuple (ds.take v.toNat ++ [x]))) := aAddB_tt (by simp only [List.length_cons, List.length_nil]; omega)
          have b2 : aAddB (.tuple (ds.take v.toNat ++ [x])) (.tuple (ds.drop v.toNat)) = some (.sh (.tuple (ds.take v.toNat ++ [x] ++ ds.drop v.toNat))) := aAddB_tt (by rw [List.length_append]; simp only [List.length_cons, List.length_nil]; omega)
          have hx : Ths (q + 1) (80 + 2 + 0) (k + 1) [x] := (Ths.cons a (Ths.nil (n := 0) (by omega))).mono (Nat.le_refl _) (by omega)
          have wAB : wtAll (ds.take v.toNat) + wtAll (ds.drop v.toNat) = wtAll ds := by rw [← wtAll_append, List.take_append_drop]
          have tot := ths.w
          refine ⟨.tuple (ds.take v.toNat ++ [x] ++ ds.drop v.toNat), kvs', (((hA.mono (Nat.le_refl _) (by omega) (by omega) (by omega)).append hx).append (hB.mono (Nat.le_refl _) (by omega) (by omega) (by omega))).tup.mono (by omega) (by omega) (Nat.le_refl _), sT fun d hd => ?_, c, ?_⟩
          · rcases List.mem_append.mp hd with hd | hd
            · rcases List.mem_append.mp hd with hd | hd
              · exact sOk_mono (by omega) _ (sds d (List.mem_of_mem_take hd))
              · rw [List.mem_singleton.mp hd]; exact b
            · exact sOk_mono (by omega) _ (sds d (List.mem_of_mem_drop hd))
          · unfold bendWay bendRest
            simp?! only [e1, e2, h3, gSl_t, c1, c2, aAddB_ii, v_ai2, e, b1, b2]
        | false =>
          cases h5 : decide (y < 5) with
          | false =>
            obtain ⟨x, kvs', a, b, c, e⟩ := od t2 (by omega)
            refine ⟨x, kvs', a.mono (by omega) (by omega) (Nat.le_refl _), b, c, ?_⟩
            unfold bendWay bendRest
            simp?! only [e1, e2, h3, h5, aAddB_ii, e]
          | true =>
            generalize hC : cutD ds (some (v + 1)) none = C at c3
            generalize hO : cutD ds (some v) (some (v + 1)) = O at c4
            have lC := c3.length_le
            have lO := c4.length_le
            have hCt : Ths q w (k - 1) C := (ths.sub c3).mono (by omega) (Nat.le_refl _) (Nat.le_refl _) h.m
            have b1 : aAddB (.tuple (ds.take v.toNat)) (.tuple C) = some (.sh (.tuple (ds.take v.toNat ++ C))) := aAddB_tt (by omega)
            have b2 : aAddB (.tuple (ds.take v.toNat)) (.tuple O) = some (.sh (.tuple (ds.take v.toNat ++ O))) := aAddB_tt (by omega)
            have b3 : aAddB (.tuple (ds.take v.toNat ++ O)) (.tuple (ds.drop v.toNat)) = some (.sh (.tuple (ds.take v.toNat ++ O ++ ds.drop v.toNat))) := aAddB_tt (by rw [List.length_append]; omega)
            obtain ⟨d', hd', g⟩ := gIx_mem (l := [.list ds, .tuple (ds.take v.toNat ++ C), .tuple (ds.take v.toNat ++ O ++ ds.drop v.toNat), .tuple [], .tuple ds.reverse]) y0 (by have := of_decide_eq_true h5; simpa using this)
            have td : Th (q + 1) (2 * w + 40 * s + 1100) (k + 2) d' ∧ sOk (s + q + 12) d' = true := by
              have sub : ∀ l : List PyData, (∀ d ∈ l, d ∈ ds) → ∀ d ∈ l, sOk (s + q + 12) d = true := fun l hl d hd => sOk_mono (by omega) _ (sds d (hl d hd))
              simp only [List.mem_cons, List.not_mem_nil, or_false] at hd'
              rcases hd' with rfl | rfl | rfl | rfl | rfl
              · exact ⟨ths.lst.mono (by omega) (by omega), sL (sub _ fun d hd => hd)⟩
              · exact ⟨(hA.append hCt).tup.mono (by omega) (by omega), sT (sub _ fun d hd => by
                  rcases List.mem_append.mp hd with hd | hd
                  · exact List.mem_of_mem_take hd
                  · exact c3.mem hd)⟩
              · have wAB : wtAll (ds.take v.toNat) + wtAll (ds.drop v.toNat) = wtAll ds := by rw [← wtAll_append, List.take_append_drop]
                have wO := wtAll_sub c4
                have tot := ths.w
                have hO' : Ths q (wtAll O) (k - 1) O := ⟨Nat.le_refl _, fun d hd => ths.k d (c4.mem hd), fun d hd => ths.g d (c4.mem hd), h.m⟩
                have hA' : Ths q (wtAll (ds.take v.toNat)) (k - 1) (ds.take v.toNat) := ⟨Nat.le_refl _, hA.k, hA.g, h.m⟩
                have hB' : Ths q (wtAll (ds.drop v.toNat)) (k - 1) (ds.drop v.toNat) := ⟨Nat.le_refl _, hB.k, hB.g, h.m⟩
                exact ⟨((hA'.append hO').append hB').tup.mono (by omega) (by omega), sT (sub _ fun d hd => by
                  rcases List.mem_append.mp hd with hd | hd
                  · rcases List.mem_append.mp hd with hd | hd
                    · exact List.mem_of_mem_take hd
                    · exact c4.mem hd
                  · exact List.mem_of_mem_drop hd)⟩
              · exact ⟨(Ths.nil (n := 0) (k := 0) (m := q) h.m).tup.mono (by omega) (by omega), sT (sub _ fun d hd => by cases hd)⟩
              · exact ⟨ths.rev.tup.mono (by omega) (by omega), sT (sub _ fun d hd => List.mem_reverse.mp hd)⟩
            refine ⟨d', kv2, td.1, td.2, t2.mono (by omega), ?_⟩
            unfold bendWay bendRest
            simp?! only [e1, e2, h3, h5, gSl_t, c1, c2, hC, hO, aAddB_ii, v_ai2, gList_t, rev_t, b1, b2, b3, g]
      have go : ∀ {kv : List (Key × PyData)} {m : Nat}, TapAt kv m → m ≤ n + 2 → bendFirst (fn_bend r) [some (.od kvs), some (.sh (.tuple ds)), some (.sh (.int deep)), none, none] = .ok .nx [some (.od kv), some (.sh (.tuple ds)), some (.sh (.int deep)), none, none] →
          ∃ d' kvs', Th (q + 1) (2 * w + 40 * s + 1100) (k + 2) d' ∧ sOk (s + q + 12) d' = true ∧ TapAt kvs' (n + 5 * (r + 1)) ∧ fn_bend (r + 1) [some (.od kvs), some (.sh (.tuple ds)), some (.sh (.int deep))] = .ok (.sh d') [some (.od kvs'), none, none] := by
        intro kv m hy hm hf
        obtain ⟨d', kvs', a, b, c, e⟩ := bend_way hy hm
        refine ⟨d', kvs', a, b, c, ?_⟩
        show fnM 2 [true, false, false] (sSeq (bendFirst (fn_bend r)) bendRest) _ = _
        simp?! only [hf]
        exact e
      cases hds : ds.isEmpty with
      | true =>
        rw [hds] at nt
        refine go ht (by omega) ?_
        unfold bendFirst
        simp?! only [nt]
      | false =>
        rw [hds] at nt
        cases hdp : decide (0 < deep) with
        | false =>
          refine go ht (by omega) ?_
          unfold bendFirst
          simp?! only [nt, hdp]
        | true =>
          have hdp' := of_decide_eq_true hdp
          obtain ⟨u, kv1, u0, u1, t1, e1⟩ := take_at (many := 3) ht (by omega) (by decide) (by decide)
          cases hu : decide (0 < u) with
          | false =>
            refine go t1 (by omega) ?_
            unfold bendFirst
            simp?! only [nt, hdp, e1, hu]
          | true =>
            have hpos : (0 : Int) < (ds.length : Int) := by
              cases ds with
              | nil => cases hds
              | cons a l => simp only [List.length_cons]; omega
            obtain ⟨v, kv2, v0, v1, t2, e2⟩ := take_at t1 (by omega) hpos (by omega)
            obtain ⟨A, e, B, eds, c1, c2, c3, c4, c5⟩ := split_at v0 v1
            have ix : gIx (.tuple ds) (.int v) = some e := c5
            have tot := ths.w
            rw [eds, wtAll_append] at tot
            simp only [wtAll] at tot
            have lA : ds.length = A.length + (B.length + 1) := by rw [eds]; simp
            have he : Th q (wt e) (k - 1) e := ⟨Nat.le_refl _, ths.k e (by rw [eds]; simp), ths.g e (by rw [eds]; simp), ths.m⟩
            obtain ⟨x, kv3, tx, sx, t3, e3⟩ := bend_ok r (deep := deep - 1) (s := s) (by omega) (by omega) t2 (by omega) he (sds e (by rw [eds]; simp)) hq hq2 hs1 hs2 (by omega) (by omega)
            have hA : Ths (q + 1) (wtAll A) (k + 1) A := ⟨Nat.le_refl _, fun d hd => Nat.le_trans (ths.k d (by rw [eds]; simp [hd])) (by omega), fun d hd => good_mono (by omega) _ (ths.g d (by rw [eds]; simp [hd])), by omega⟩
            have hB : Ths (q + 1) (wtAll B) (k + 1) B := ⟨Nat.le_refl _, fun d hd => Nat.le_trans (ths.k d (by rw [eds]; simp [hd])) (by omega), fun d hd => good_mono (by omega) _ (ths.g d (by rw [eds]; simp [hd])), by omega⟩
            have hx : Ths (q + 1) (2 * wt e + 40 * s + 1100 + 2 + 0) (k + 1) [x] := (Ths.cons tx (Ths.nil (n := 0) (by omega))).mono (Nat.le_refl _) (by omega)
            have b1 : aAddB (.tuple A) (.tuple [x]) = some (.sh (.tuple (A ++ [x]))) := aAddB_tt (by simp only [List.length_cons, List.length_nil]; omega)
            have b2 : aAddB (.tuple (A ++ [x])) (.tuple B) = some (.sh (.tuple (A ++ [x] ++ B))) := aAddB_tt (by rw [List.length_append]; simp only [List.length_cons, List.length_nil]; omega)
            refine ⟨.tuple (A ++ [x] ++ B), kv3, ((hA.append hx).append hB).tup.mono (by omega) (Nat.le_refl _), sT fun d hd => ?_, t3.mono (by omega), ?_⟩
            · rcases List.mem_append.mp hd with hd | hd
              · rcases List.mem_append.mp hd with hd | hd
                · exact sOk_mono (by omega) _ (sds d (by rw [eds]; simp [hd]))
                · rw [List.mem_singleton.mp hd]; exact sx
              · exact sOk_mono (by omega) _ (sds d (by rw [eds]; simp [hd]))
            · show fnM 2 [true, false, false] (sSeq (bendFirst (fn_bend r)) bendRest) _ = _
              unfold bendFirst
              simp?! only [nt, hdp, e1, hu, e2, gSl_t, c1, c2, aAddB_ii, v_ai2, ix, e3, b1, b2]
end Lw
namespace Lw
open PySem L2 PySem.W PySem.SeqAt Eg
theorem gInt_bool (b : Bool) : gInt [.bool b] = some (.sh (.int (if b = true then 1 else 0))) := by cases b <;> rfl
theorem news_ok {kvs : List (Key × PyData)} {k : Nat} {ts : List Str} (h : TapAt kvs k) (hk : k < 90000) (hs : ts.length ≤ 5) : ∃ l kvs', Good ts l ∧ (∀ t ∈ l, t.2.2 ≤ 99999) ∧ TapAt kvs' (k + 10) ∧
    fn_news [some (.od kvs), some (.sh (.list (ts.map .str)))] = .ok (.sh (newsD l)) [some (.od kvs'), none] := by
  have z := sizeLine_eq
  obtain ⟨ρ', e, i⟩ := loop_inv (f := PyData.str) (t := tName 3) (b := m_news_b1) (fun rest ρ => ∃ (done : List Told) (kvs' : List (Key × PyData)) (o3 o4 : Option OD), done.map (·.1) ++ rest = ts ∧ (∀ t ∈ done, 0 ≤ t.2.1 ∧ t.2.1 ≤ 10000000000 ∧ 0 ≤ t.2.2 ∧ t.2.2 ≤ 99999) ∧ TapAt kvs' (k + 2 * done.length) ∧
      ρ = [some (.od kvs'), some (.sh (.list (ts.map .str))), some (.ol (done.map td)), o3, o4]) (by
    rintro x rest ρ ⟨done, kvs1, o3, o4, e1, e2, t1, rfl⟩
    have hl : done.length + (rest.length + 1) = ts.length := by rw [← e1]; simp
    obtain ⟨v, kvs2, v0, v1, t2, e3⟩ := take_at t1 (by omega) (show (0 : Int) < 3 by decide) (by decide)
    obtain ⟨w, kvs3, w0, w1, t3, e4⟩ := take_at t2 (by omega) (show (0 : Int) < 40 by decide) (by decide)
    refine ⟨[some (.od kvs1), some (.sh (.list (ts.map .str))), some (.ol (done.map td)), some (.sh (.str x)), o4], [some (.od kvs3), some (.sh (.list (ts.map .str))), some (.ol ((done ++ [(x, v, w * (if decide (0 < v) = true then 1 else 0))]).map td)), some (.sh (.str x)), some (.sh (.int v))], rfl, .inl ?_, ?_⟩
    · have gm := gMul_int (a := w) (b := if decide (0 < v) = true then 1 else 0) ⟨by omega, by omega⟩
      have gi := gInt_bool (decide (0 < v))
      have hz : (done.map td).length < sizeLine := by rw [List.length_map]; omega
      unfold m_news_b1
      simp! only [e3, e4, gi, gm, v_app, v_apo, hz]
      rw [List.map_append]
      rfl
    · refine ⟨_, kvs3, some (.sh (.str x)), some (.sh (.int v)), ?_, fun t ht => ?_, t3.mono (by rw [List.length_append, List.length_singleton]; omega), rfl⟩
      · rw [List.map_append, ← e1, List.append_assoc]; rfl
      · rcases List.mem_append.mp ht with q | q
        · exact e2 t q
        · simp at q
          subst q
          refine ⟨v0, by show v ≤ _; omega, ?_, ?_⟩ <;> show (_ : Int) ≤ _ <;> by_cases c : 0 < v <;> simp [c] <;> omega) ts [some (.od kvs), some (.sh (.list (ts.map .str))), some (.ol []), none, none] ⟨[], kvs, none, none, rfl, (fun t ht => by cases ht), h, rfl⟩
  obtain ⟨l, kvs', o3, o4, e1, e2, t1, rfl⟩ := i
  rw [List.append_nil] at e1
  have hl : l.length = ts.length := by rw [← e1, List.length_map]
  refine ⟨l, kvs', ⟨e1, fun t ht => ⟨(e2 t ht).1, (e2 t ht).2.1, (e2 t ht).2.2.1, by have := (e2 t ht).2.2.2; omega⟩⟩, (fun t ht => (e2 t ht).2.2.2), t1.mono (by omega), ?_⟩
  unfold fn_news m_news
  simp! only [e]
  rfl
section
variable {o0 o1 o2 o3 o9 : Option OD} {ts : List Str} {A B C D E : List Told}
/-- the look at two -/
theorem pair_ok (hs : List.Sublist ts five) (h1 : 1 ≤ ts.length) {a b : List Told} (hA : Good ts A) (hB : Good ts B) (hC : Good ts C) (ha : Good ts a) (hb : Good ts b) {o4 o5 o7 o8 : Option OD} {o12 o13 o14 o15 o16 : Option OD} :
    ∃ o, m_law_k08_b4 [o0, o1, o2, o3, o4, o5, some (.sh (newsD C)), o7, o8, o9, some (.sh (newsD a)), some (.sh (newsD b)), o12, o13, o14, o15, o16] =
      .ok .nx [o0, o1, o2, o3, o4, o5, some (.sh (newsD C)), o7, o8, o9, some (.sh (newsD a)), some (.sh (newsD b)), o, o13, o14, o15, o16] := by
  have l5 : ts.length ≤ 5 := hs.length_le
  have la := ha.len
  have lb := hb.len
  have lc := hC.len
  have hT := ha.together hb
  have lT := hT.len
  have e1 := together_ok (xs := a) (ys := b) (by omega)
  have e2 := together_ok (xs := b) (ys := a) (by omega)
  have e3 := together_ok (xs := together a b) (ys := a) (by omega)
  have e4 := together_ok (xs := together a b) (ys := together a b) (by omega)
  have e5 := together_ok (xs := together a b) (ys := C) (by omega)
  have e6 := together_ok (xs := C) (ys := b) (by omega)
  have e7 := together_ok (xs := a) (ys := together C b) (by omega)
  rw [together_comm b a] at e2
  rw [together_comm (together a b) a, ← together_assoc, together_self] at e3
  rw [together_self] at e4
  rw [together_assoc, together_comm b C] at e5
  have hd := is_heard_ok hs h1 hT
  have fT := hT.fd hs
  have rp := fT.repr
  have f3 := (Fd.list (m := 3) (all3 fT fT fT) (Nat.le_refl 3)).neR
  have f5 := ((ha.together (hC.together hb)).fd hs).neR
  have ml : aMul (.list [newsD (together a b)]) (.int 3) = some (.ol [newsD (together a b), newsD (together a b), newsD (together a b)]) := rfl
  refine ⟨some (.sh (newsD (together a b))), ?_⟩
  unfold m_law_k08_b4
  rw [greater_eq]
  simp! only [e1, e2, e3, e4, e5, e6, e7, rp, hd, ml, f3, f5]
end
end Lw
set_option exponentiation.threshold 10000
namespace Eg
open PySem L2 PySem.W PySem.SeqAt
theorem Ths.all {q n k : Nat} : ∀ {ds : List PyData}, (∀ d ∈ ds, Th q n k d) → q ≤ 400 → Ths q (ds.length * (n + 2)) k ds
  | [], _, hq => (Ths.nil hq).mono (Nat.zero_le _) (Nat.le_refl _) (Nat.le_refl _) hq
  | d :: ds, h, hq => (Ths.cons (h d List.mem_cons_self) (Ths.all (fun e he => h e (List.mem_cons_of_mem _ he)) hq)).mono (by rw [List.length_cons, Nat.add_mul]; omega) (Nat.le_refl _) (Nat.le_refl _) hq
theorem th_small {q : Nat} {i : Int} (h0 : 0 ≤ i) (h1 : i < 100) (hq : 2 ≤ q) (h4 : q ≤ 400) : Th q 3 0 (.int i) := Th.int (n := 2) (by omega) hq h4
end Eg
namespace Lw
open PySem L2 PySem.W PySem.SeqAt Eg
/-- a short plain text -/
def TownT (x : Str) : Prop := thB 60 40 0 (.str x) = true ∧ sOk 10 (.str x) = true
instance : DecidablePred TownT := fun x => by unfold TownT; infer_instance
def PairT (p : Hand × Hand) : Prop := (TownT p.1.1 ∧ TownT p.1.2) ∧ TownT p.2.1 ∧ TownT p.2.2
def LowT (i : Int) : Prop := 0 ≤ i ∧ i < 100
structure RowT (r : Row) : Prop where
  p : PairT r.p
  a : LowT r.a
  b : LowT r.b
  place : TownT r.place
  giver : TownT r.giver
  u : LowT r.u
  free : LowT r.free
structure LotT (l : Lot) : Prop where
  turn : LowT l.turn
  floor : LowT l.floor
  len : l.rows.length ≤ 100
  rows : ∀ r ∈ l.rows, RowT r
theorem TownT.th {x : Str} (h : TownT x) : Th 60 40 0 (.str x) := Th.ofB h.1 (by decide)
theorem LowT.th {i : Int} (h : LowT i) : Th 60 3 0 (.int i) := th_small h.1 h.2 (by decide) (by decide)
theorem nil60 {k : Nat} : Ths 60 0 k [] := Ths.nil (by decide)
theorem hd_th {h : Hand} (h1 : TownT h.1) (h2 : TownT h.2) : Th 60 90 1 (hd h) := (Ths.cons h1.th (Ths.cons h2.th nil60)).tup.mono (by decide) (by decide)
theorem hd_s {h : Hand} (h1 : TownT h.1) (h2 : TownT h.2) : sOk 10 (hd h) = true := sT (by
  intro d hd
  simp only [List.mem_cons, List.not_mem_nil, or_false] at hd
  rcases hd with rfl | rfl
  · exact h1.2
  · exact h2.2)
theorem pd_th {p : Hand × Hand} (h : PairT p) : Th 60 190 2 (pd p) := (Ths.cons (hd_th h.1.1 h.1.2) (Ths.cons (hd_th h.2.1 h.2.2) nil60)).tup.mono (by decide) (by decide)
theorem pd_s {p : Hand × Hand} (h : PairT p) : sOk 10 (pd p) = true := sT (by
  intro d hd
  simp only [List.mem_cons, List.not_mem_nil, or_false] at hd
  rcases hd with rfl | rfl
  · exact hd_s h.1.1 h.1.2
  · exact hd_s h.2.1 h.2.2)
theorem st_th {a b : Int} (ha : LowT a) (hb : LowT b) : Th 60 20 1 (.tuple [.int a, .int b]) := (Ths.cons ha.th (Ths.cons hb.th nil60)).tup.mono (by decide) (by decide)
theorem row_cells {r : Row} (h : RowT r) : Ths 60 330 2 [pd r.p, .tuple [.int r.a, .int r.b], .str r.place, .str r.giver, .int r.u, .int r.free, .bool r.here] := by
  have b : Th 60 5 0 (.bool r.here) := Th.bool _ (by decide)
  exact (Ths.cons (pd_th h.p) (Ths.cons ((st_th h.a h.b).mono (Nat.le_refl _) (by decide)) (Ths.cons (h.place.th.mono (Nat.le_refl _) (by decide)) (Ths.cons (h.giver.th.mono (Nat.le_refl _) (by decide)) (Ths.cons (h.u.th.mono (Nat.le_refl _) (by decide)) (Ths.cons (h.free.th.mono (Nat.le_refl _) (by decide)) (Ths.cons (b.mono (Nat.le_refl _) (by decide)) nil60))))))).mono (by decide) (Nat.le_refl _)
theorem rd_th {r : Row} (h : RowT r) : Th 60 333 3 (rd r) := (row_cells h).tup
theorem rd_s {r : Row} (h : RowT r) : sOk 10 (rd r) = true := sT (by
  intro d hd
  simp only [List.mem_cons, List.not_mem_nil, or_false] at hd
  rcases hd with rfl | rfl | rfl | rfl | rfl | rfl | rfl
  · exact pd_s h.p
  · exact sT (by
      intro d hd
      simp only [List.mem_cons, List.not_mem_nil, or_false] at hd
      rcases hd with rfl | rfl <;> exact sI _ _)
  · exact h.place.2
  · exact h.giver.2
  · exact sI _ _
  · exact sI _ _
  · exact sBo _ _)
theorem rows_th {l : Lot} (h : LotT l) : Ths 60 33500 3 (l.rows.map rd) := (Ths.all (q := 60) (n := 333) (k := 3) (fun d hd => by
    obtain ⟨r, hr, rfl⟩ := List.mem_map.mp hd
    exact rd_th (h.rows r hr)) (by decide)).mono (by
    rw [List.length_map]
    have := Nat.mul_le_mul_right (333 + 2) h.len
    omega) (Nat.le_refl _)
theorem lotD_th {l : Lot} (h : LotT l) : Th 60 33530 5 (lotD l) :=
  (Ths.cons (h.turn.th.mono (Nat.le_refl _) (by decide)) (Ths.cons (h.floor.th.mono (Nat.le_refl _) (by decide)) (Ths.cons (rows_th h).tup nil60))).tup.mono (by decide) (Nat.le_refl _)
theorem lotD_s {l : Lot} (h : LotT l) : sOk 10 (lotD l) = true := sT (by
  intro d hd
  simp only [List.mem_cons, List.not_mem_nil, or_false] at hd
  rcases hd with rfl | rfl | rfl
  · exact sI _ _
  · exact sI _ _
  · exact sT fun d hd => by
      obtain ⟨r, hr, rfl⟩ := List.mem_map.mp hd
      exact rd_s (h.rows r hr))
theorem five_town : ∀ x ∈ five, TownT x := by decide +kernel
theorem words_town : ∀ x ∈ words, TownT x := by decide +kernel
def NewsT (ts : List Str) (l : List Told) : Prop := Good ts l ∧ List.Sublist ts five
theorem told_th {ts : List Str} {l : List Told} (h : NewsT ts l) {t : Told} (ht : t ∈ l) : Th 60 80 1 (td t) ∧ sOk 10 (td t) = true := by
  have a := five_town t.1 (h.2.mem (by rw [← h.1.1]; exact List.mem_map_of_mem ht))
  have b := h.1.2 t ht
  constructor
  · exact (Ths.cons a.th (Ths.cons (Th.int (m := 60) (n := 11) (by omega) (by decide) (by decide)) (Ths.cons (Th.int (m := 60) (n := 6) (by omega) (by decide) (by decide)) nil60))).tup.mono (by decide) (by decide)
  · exact sT (by
      intro d hd
      simp only [List.mem_cons, List.not_mem_nil, or_false] at hd
      rcases hd with rfl | rfl | rfl
      · exact a.2
      · exact sI _ _
      · exact sI _ _)
theorem news_len {ts : List Str} {l : List Told} (h : NewsT ts l) : l.length ≤ 5 := by
  rw [h.1.len]; exact h.2.length_le
theorem news_ths {ts : List Str} {l : List Told} (h : NewsT ts l) : Ths 60 420 1 (l.map td) := (Ths.all (q := 60) (n := 80) (k := 1) (fun d hd => by
    obtain ⟨t, ht, rfl⟩ := List.mem_map.mp hd
    exact (told_th h ht).1) (by decide)).mono (by
    rw [List.length_map]
    have := Nat.mul_le_mul_right (80 + 2) (news_len h)
    omega) (Nat.le_refl _)
theorem newsD_s {ts : List Str} {l : List Told} (h : NewsT ts l) : sOk 10 (newsD l) = true := sT fun d hd => by
  obtain ⟨t, ht, rfl⟩ := List.mem_map.mp hd
  exact (told_th h ht).2
theorem rise_two : ∀ {l : List Hand} {p : Hand × Hand}, p ∈ rise l → p.1 ∈ l ∧ p.2 ∈ l
  | x :: xs, p, hp => by
    rcases List.mem_append.mp hp with z | z
    · obtain ⟨y, hy, rfl⟩ := List.mem_map.mp z
      exact ⟨List.mem_cons_self, List.mem_cons_of_mem _ hy⟩
    · exact ⟨List.mem_cons_of_mem _ (rise_two z).1, List.mem_cons_of_mem _ (rise_two z).2⟩
theorem rise_ne : ∀ {l : List Hand}, 2 ≤ l.length → rise l ≠ []
  | x :: y :: l, _ => by show (x, y) :: _ ≠ []; exact List.cons_ne_nil _ _
theorem rise_lenT : ∀ l : List Hand, 2 * (rise l).length + l.length = l.length * l.length
  | [] => rfl
  | x :: xs => by
    have ih := rise_lenT xs
    simp only [rise, List.length_append, List.length_map, List.length_cons, Nat.mul_add, Nat.add_mul]
    omega
theorem all_town {h : Hand} (hh : h ∈ allOf five) : TownT h.1 ∧ TownT h.2 := by
  have : ∀ h ∈ allOf five, TownT h.1 ∧ TownT h.2 := by decide +kernel
  exact this h hh
theorem allOf_sub : ∀ {us ts : List Str}, List.Sublist us ts → List.Sublist (allOf us) (allOf ts) := by
  intro us ts h
  induction h with
  | slnil => exact List.Sublist.refl _
  | cons x _ ih => exact ih.trans (by show List.Sublist _ ((words.map fun w => (x, w)) ++ allOf _); exact List.sublist_append_right _ _)
  | cons_cons x _ ih => exact List.Sublist.append (List.Sublist.refl _) ih
theorem nodup5 : (allOf five).Nodup := by decide +kernel
open List in
/-- so many unlike hands of these towns -/
theorem seats_two {kvs : List (Key × PyData)} {k : Nat} {ts : List Str} {many : Int} (h : TapAt kvs k) (hk : k < 90000) (ht : ts.length ≤ 5) (ht1 : 1 ≤ ts.length) (hm : 2 ≤ many) : ∃ (found rest : List Hand) (kvs' : List (Key × PyData)), found ++ rest ~ allOf ts ∧ (2 ≤ found.length ∧ found.length ≤ many.toNat) ∧ TapAt kvs' (k + 100) ∧
    fn_seats [some (.od kvs), some (.sh (.list (ts.map .str))), some (.sh (.int many))] = .ok (.ol (found.map hd)) [some (.od kvs'), none, none] := by
  have al : ∀ l : List Str, (allOf l).length = 3 * l.length := fun l => by
    induction l with
    | nil => rfl
    | cons x l ih =>
      have : allOf (x :: l) = (words.map fun w => (x, w)) ++ allOf l := rfl
      rw [this, List.length_append, ih, List.length_map, List.length_cons]
      simp [words]; omega
  have al5 := al ts
  let m : Int := if (allOf ts).length < many then ((allOf ts).length : Int) else many
  have m3 : 2 ≤ m := by show 2 ≤ ite _ _ _; split <;> omega
  have m0 : 0 ≤ m := by show 0 ≤ ite _ _ _; split <;> omega
  have m1 : m.toNat ≤ (allOf ts).length := by show (ite _ _ _ : Int).toNat ≤ _; split <;> omega
  have m2 : m.toNat ≤ many.toNat := by show (ite _ _ _ : Int).toNat ≤ _; split <;> omega
  obtain ⟨o5', e1⟩ := seats_first (o0 := some (.od kvs)) (o1 := some (.sh (.list (ts.map .str)))) (o2 := some (.sh (.int many))) (o4 := some (.ol [])) (o6 := none) (o7 := none) ts [] none (by rw [List.length_nil]; omega)
  obtain ⟨pool', found', kvs', o6', p, q, t2, e2⟩ := seats_second (o1 := some (.sh (.list (ts.map .str)))) (o2 := some (.sh (.int many))) (o5 := o5') (o7 := none) ((List.range m.toNat).map fun (j : Nat) => (0 + (j : Int))) (allOf ts) [] kvs k none (by rw [List.length_map, List.length_range]; exact m1) (by rw [List.length_nil]; omega) h (by rw [List.length_map, List.length_range]; omega)
  rw [List.length_map, List.length_range] at q t2
  refine ⟨found', pool', kvs', p, ⟨by rw [q, List.length_nil]; omega, by rw [q, List.length_nil]; omega⟩, t2.mono (by omega), ?_⟩
  have rg : rng1 [.int m] = some (rngD 0 m.toNat) := if_pos ⟨by omega, by omega⟩
  have rd : rngD 0 m.toNat = ((List.range m.toNat).map fun (j : Nat) => (0 + (j : Int))).map PyData.int := by unfold rngD; rw [List.map_map]; rfl
  have gm : gMin [.int many, .int ((allOf ts).map hd).length] = some (.sh (.int m)) := by rw [gMin_int, List.length_map]
  have l0 : lstG [] = some (.ol []) := if_pos (Nat.zero_le _)
  unfold fn_seats m_seats
  simp? only [l0]
  have e1' := e1
  rw [List.nil_append] at e1'
  unfold seatsB at e1'
  simp only [List.map_nil] at e1'
  rw [e1']
  simp? only [gLen_any, gm, rg]
  rw [rd]
  have e2' := e2
  unfold seatsC at e2'
  simp only [List.map_nil] at e2'
  rw [e2']
  simp? only []
/-- a drawn row -/
theorem row_newT {kvs : List (Key × PyData)} {k : Nat} {ts : List Str} {p : Hand × Hand} (h : TapAt kvs k) (hk : k < 900000) (h1 : 1 ≤ ts.length) (h2 : ts.length ≤ 100) (hp : PairT p) (hs : ∀ x ∈ ts, TownT x) : ∃ (r : Row) (kvs' : List (Key × PyData)), r.p = p ∧ RowT r ∧ TapAt kvs' (k + 10) ∧
    fn_row [some (.od kvs), some (.sh (pd p)), some (.sh (.list (ts.map .str)))] = .ok (.sh (rd r)) [some (.od kvs'), none, none] := by
  obtain ⟨v1, k1, a1, b1, t1, e1⟩ := take_at h (by omega) (show (0 : Int) < 3 by decide) (by decide)
  obtain ⟨v2, k2, a2, b2, t2, e2⟩ := take_at t1 (by omega) (show (0 : Int) < 4 by decide) (by decide)
  obtain ⟨v3, k3, a3, b3, t3, e3⟩ := take_at t2 (by omega) (show (0 : Int) < (ts.length : Int) by omega) (by omega)
  obtain ⟨v4, k4, a4, b4, t4, e4⟩ := take_at t3 (by omega) (show (0 : Int) < (ts.length : Int) by omega) (by omega)
  obtain ⟨v5, k5, a5, b5, t5, e5⟩ := take_at t4 (by omega) (show (0 : Int) < 3 by decide) (by decide)
  obtain ⟨v6, k6, a6, b6, t6, e6⟩ := take_at t5 (by omega) (show (0 : Int) < 30 by decide) (by decide)
  obtain ⟨v7, k7, a7, b7, t7, e7⟩ := take_at t6 (by omega) (show (0 : Int) < 2 by decide) (by decide)
  obtain ⟨x, hx, g3⟩ := gIx_str a3 b3
  obtain ⟨y, hy, g4⟩ := gIx_str a4 b4
  have gl : gLen [.list (ts.map .str)] = some (.sh (.int (ts.length : Int))) := by rw [gLen_any, List.length_map]
  refine ⟨⟨p, v1, v2, x, y, v5, v6, decide (v7 = 0)⟩, k7, rfl, ⟨hp, ⟨a1, Int.lt_trans b1 (by decide)⟩, ⟨a2, Int.lt_trans b2 (by decide)⟩, hs x hx, hs y hy, ⟨a5, Int.lt_trans b5 (by decide)⟩, ⟨a6, Int.lt_trans b6 (by decide)⟩⟩, t7.mono (by omega), ?_⟩
  unfold fn_row m_row
  simp? only [e1, e2, tg2, gl, e3, g3, e4, g4, e5, e6, e7, gEq_int, tg7]
  rfl
theorem lot_loopT {ts : List Str} {o1 : Option OD} (h1 : 1 ≤ ts.length) (h2 : ts.length ≤ 100) (hs : ∀ x ∈ ts, TownT x) : ∀ (ps : List (Hand × Hand)) (acc : List Row) (kvs : List (Key × PyData)) (k : Nat) (o3 o4 : Option OD), TapAt kvs k → k + 20 * ps.length < 800000 → acc.length + ps.length ≤ 1000 → (∀ p ∈ ps, PairT p) →
    ∃ (rows : List Row) (kvs' : List (Key × PyData)) (o4' : Option OD), (∀ r ∈ rows, RowT r) ∧ rows.length ≤ ps.length ∧ TapAt kvs' (k + 20 * ps.length) ∧
      lcGo (tName 4) lotT lotE [4] (ps.map pd) (acc.map rd) [some (.od kvs), o1, some (.sh (.list (ts.map .str))), o3, o4] = .ok ((acc ++ rows).map rd) [some (.od kvs'), o1, some (.sh (.list (ts.map .str))), o3, o4']
  | [], acc, kvs, k, o3, o4, ht, _, _, _ => ⟨[], kvs, o4, fun r h => (by cases h), Nat.le_refl _, ht, by rw [List.append_nil]; rfl⟩
  | p :: ps, acc, kvs, k, o3, o4, ht, hk, ha, hp => by
    rw [List.length_cons] at hk ha
    have z := sizeLine_eq
    obtain ⟨v1, k1, a1, b1, t1, e1⟩ := take_at ht (by omega) (show (0 : Int) < 3 by decide) (by decide)
    have tn : tName 4 (pd p) (wipeR [some (.od kvs), o1, some (.sh (.list (ts.map .str))), o3, o4] [4]) = some [some (.od kvs), o1, some (.sh (.list (ts.map .str))), o3, some (.sh (pd p))] := rfl
    have tt : lotT [some (.od kvs), o1, some (.sh (.list (ts.map .str))), o3, some (.sh (pd p))] = .ok (decide (0 < v1)) [some (.od k1), o1, some (.sh (.list (ts.map .str))), o3, some (.sh (pd p))] := by
      unfold lotT
      simp? only [e1, gGt_int]
    by_cases hv : 0 < v1
    · obtain ⟨r, k2, rp, rf, t2, e2⟩ := row_newT t1 (by omega) h1 h2 (hp p List.mem_cons_self) hs
      obtain ⟨rows, k3, o4', rs, rl, t3, e3⟩ := lot_loopT (o1 := o1) h1 h2 hs ps (acc ++ [r]) k2 (k + 1 + 10) o3 (some (.sh (pd p))) t2 (by omega) (by rw [List.length_append, List.length_singleton]; omega) fun q hq => hp q (List.mem_cons_of_mem _ hq)
      refine ⟨r :: rows, k3, o4', fun q hq => ?_, by rw [List.length_cons, List.length_cons]; omega, t3.mono (by rw [List.length_cons]; omega), ?_⟩
      · rcases List.mem_cons.mp hq with rfl | hq
        · exact rf
        · exact rs q hq
      · have ee : lotE [some (.od k1), o1, some (.sh (.list (ts.map .str))), o3, some (.sh (pd p))] = .ok (rd r) [some (.od k2), o1, some (.sh (.list (ts.map .str))), o3, some (.sh (pd p))] := by
          unfold lotE
          simp? only [e2]
        rw [List.map_cons]
        simp only [lcGo, tn, tt, decide_eq_true hv, ee]
        rw [if_pos (by rw [List.length_map]; omega)]
        have m1 : acc.map rd ++ [rd r] = (acc ++ [r]).map rd := by rw [List.map_append]; rfl
        rw [m1, e3, List.append_assoc]
        rfl
    · obtain ⟨rows, k3, o4', rs, rl, t3, e3⟩ := lot_loopT (o1 := o1) h1 h2 hs ps acc k1 (k + 1) o3 (some (.sh (pd p))) t1 (by omega) (by omega) fun q hq => hp q (List.mem_cons_of_mem _ hq)
      refine ⟨rows, k3, o4', rs, by rw [List.length_cons]; omega, t3.mono (by rw [List.length_cons]; omega), ?_⟩
      rw [List.map_cons]
      simp only [lcGo, tn, tt, decide_eq_false hv]
      exact e3
theorem lot_newT {kvs : List (Key × PyData)} {k : Nat} {ts : List Str} {ps : List (Hand × Hand)} (h : TapAt kvs k) (hk : k < 100000) (h1 : 1 ≤ ts.length) (h2 : ts.length ≤ 100) (hp : ∀ p ∈ ps, PairT p) (hl : ps.length ≤ 100) (hs : ∀ x ∈ ts, TownT x) : ∃ (l : Lot) (kvs' : List (Key × PyData)), LotT l ∧ TapAt kvs' (k + 3000) ∧
    fn_lot [some (.od kvs), some (.sh (.list (ps.map pd))), some (.sh (.list (ts.map .str)))] = .ok (.sh (lotD l)) [some (.od kvs'), none, none] := by
  obtain ⟨rows, k1, o4', rs, rl, t1, e1⟩ := lot_loopT (o1 := some (.sh (.list (ps.map pd)))) h1 h2 hs ps [] kvs k none none h (by omega) (by rw [List.length_nil]; omega) hp
  obtain ⟨v2, k2, a2, b2, t2, e2⟩ := take_at t1 (by omega) (show (0 : Int) < 3 by decide) (by decide)
  obtain ⟨v3, k3, a3, b3, t3, e3⟩ := take_at t2 (by omega) (show (0 : Int) < 30 by decide) (by decide)
  refine ⟨⟨v2, v3, rows⟩, k3, ⟨⟨a2, Int.lt_trans b2 (by decide)⟩, ⟨a3, Int.lt_trans b3 (by decide)⟩, by show rows.length ≤ 100; omega, rs⟩, t3.mono (by omega), ?_⟩
  rw [List.nil_append, List.map_nil] at e1
  have gt : ∀ ds : List PyData, gTuple [.list ds] = some (.sh (.tuple ds)) := fun _ => rfl
  unfold fn_lot m_lot
  simp? only [v_comp]
  unfold lotT lotE at e1
  rw [e1]
  simp? only [v_cpk, List.length_cons, List.length_nil, v_rs0, v_rs1, gt, e2, e3, tg3]
  rfl
end Lw
set_option exponentiation.threshold 10000
namespace Eg
open PySem L2 PySem.W PySem.SeqAt
theorem gIx_end (l : List PyData) (x : PyData) : gIx (.tuple (l ++ [x])) (.int (-1)) = some x := by
  show L2.atI (l ++ [x]) (-1) = some x
  unfold L2.atI ixN
  rw [if_neg (by omega), if_pos (by rw [List.length_append, List.length_singleton]; omega)]
  rw [List.length_append, List.length_singleton]
  have e : (-1 + ((l.length + 1 : Nat) : Int)).toNat = l.length := by omega
  rw [e]
  simp
theorem gRev2_t (ds : List PyData) : gRev2 (.tuple ds) = some (.sh (.tuple ds.reverse)) := rfl
theorem gTuple_l (ds : List PyData) : gTuple [.list ds] = some (.sh (.tuple ds)) := rfl
theorem gList_tt (ds : List PyData) : gList [.tuple ds] = some (.ol ds) := rfl
end Eg
namespace Lw
open PySem L2 PySem.W PySem.SeqAt Eg
def thP0 : M Out := sUn (mFix tupG (mCons (((mCallO fn_row (mCons (mSlot 0) (mCons ((m2 gIx (mSlot 2) ((M.ret (.int 0)).bind fun d => M.ret (.dat d))).bind fun d => M.ret (.dat d)) (mCons ((mName 1).bind fun d => M.ret (.dat d)) (mNil))))).bind fz).bind fun d => M.ret (.dat d)) (mCons (((mCallO fn_lot (mCons (mSlot 0) (mCons ((mName 2).bind fun d => M.ret (.dat d)) (mCons ((mName 1).bind fun d => M.ret (.dat d)) (mNil))))).bind fz).bind fun d => M.ret (.dat d)) (mCons (((mCallO fn_news (mCons (mSlot 0) (mCons ((mName 1).bind fun d => M.ret (.dat d)) (mNil)))).bind fz).bind fun d => M.ret (.dat d)) (mCons ((m2 gIx (mSlot 2) ((M.ret (.int 0)).bind fun d => M.ret (.dat d))).bind fun d => M.ret (.dat d)) (mNil)))))) (tTup [tName 3, tName 4, tName 5, tName 6])
def thP1 : M Out := sSet 7 (mFix lstG (mCons ((mName 3).bind fun d => M.ret (.dat d)) (mCons ((mName 4).bind fun d => M.ret (.dat d)) (mCons ((mName 5).bind fun d => M.ret (.dat d)) (mCons ((mName 6).bind fun d => M.ret (.dat d)) (mCons ((m2 gIx (mSlot 6) ((M.ret (.int 1)).bind fun d => M.ret (.dat d))).bind fun d => M.ret (.dat d)) (mCons (((m1 gRev2 (mSlot 6)).bind fz).bind fun d => M.ret (.dat d)) (mCons ((mFix tupG (mCons ((m2 gIx (mSlot 6) ((M.ret (.int 0)).bind fun d => M.ret (.dat d))).bind fun d => M.ret (.dat d)) (mCons ((m2 gIx (mSlot 6) ((M.ret (.int 0)).bind fun d => M.ret (.dat d))).bind fun d => M.ret (.dat d)) (mNil)))).bind fun d => M.ret (.dat d)) (mCons (((mL gList (mCons (mSlot 6) (mNil))).bind fz).bind fun d => M.ret (.dat d)) (mCons (((mL gList (mCons ((m2 gIx (mSlot 6) ((M.ret (.int 0)).bind fun d => M.ret (.dat d))).bind fun d => M.ret (.dat d)) (mNil))).bind fz).bind fun d => M.ret (.dat d)) (mCons (((m2 aAdd (mSlot 6) (((mSl (mSlot 6) (M.ret none) ((M.ret (.int 1)).bind fun d => (asInt d).bind fun i => M.ret (some i))).bind fz).bind fun d => M.ret (.dat d))).bind fz).bind fun d => M.ret (.dat d)) (mNil))))))))))))
def thP2 : M Out := sSet 7 (m2 aAdd (mSlot 7) (((mFix lstG (mCons (((m1 gRev2 (mSlot 5)).bind fz).bind fun d => M.ret (.dat d)) (mCons (((m2 aAdd (mSlot 5) (((mSl (mSlot 5) (((M.ret (.int 1)).bind negD).bind fun d => (asInt d).bind fun i => M.ret (some i)) (M.ret none)).bind fz).bind fun d => M.ret (.dat d))).bind fz).bind fun d => M.ret (.dat d)) (mCons (((mSl (mSlot 5) (M.ret none) ((M.ret (.int 1)).bind fun d => (asInt d).bind fun i => M.ret (some i))).bind fz).bind fun d => M.ret (.dat d)) (mCons (((mL gList (mCons (mSlot 5) (mNil))).bind fz).bind fun d => M.ret (.dat d)) (mCons (((mL gTuple (mCons (((mComp ((mName 5).bind seqItems) (tName 11) (M.ret true) (m_things_e1) [11]).bind fz).bind fun d => M.ret (.dat d)) (mNil))).bind fz).bind fun d => M.ret (.dat d)) (mCons (((mL gList (mCons (mSlot 3) (mNil))).bind fz).bind fun d => M.ret (.dat d)) (mNil)))))))).bind fz).bind fun d => M.ret (.dat d)))
def thP3 : M Out := sFor ((mFix tupG (mCons ((mFix tupG (mCons ((M.ret (.int 0)).bind fun d => M.ret (.dat d)) (mCons (((m1 gRev2 (mSlot 6)).bind fz).bind fun d => M.ret (.dat d)) (mNil)))).bind fun d => M.ret (.dat d)) (mCons ((mFix tupG (mCons ((M.ret (.int 1)).bind fun d => M.ret (.dat d)) (mCons ((mFix tupG (mCons ((M.ret (.int 0)).bind fun d => M.ret (.dat d)) (mCons (((M.ret (.int 1)).bind negD).bind fun d => M.ret (.dat d)) (mNil)))).bind fun d => M.ret (.dat d)) (mNil)))).bind fun d => M.ret (.dat d)) (mCons ((mFix tupG (mCons ((M.ret (.int 1)).bind fun d => M.ret (.dat d)) (mCons ((mFix tupG (mCons ((M.ret (.bool true)).bind fun d => M.ret (.dat d)) (mCons ((M.ret (.int 0)).bind fun d => M.ret (.dat d)) (mNil)))).bind fun d => M.ret (.dat d)) (mNil)))).bind fun d => M.ret (.dat d)) (mCons ((mFix tupG (mCons ((M.ret (.int 1)).bind fun d => M.ret (.dat d)) (mCons (((mFix lstG (mCons ((M.ret (.int 0)).bind fun d => M.ret (.dat d)) (mCons ((M.ret (.int 0)).bind fun d => M.ret (.dat d)) (mNil)))).bind fz).bind fun d => M.ret (.dat d)) (mNil)))).bind fun d => M.ret (.dat d)) (mCons ((mFix tupG (mCons ((M.ret (.int 1)).bind fun d => M.ret (.dat d)) (mCons ((mFix tupG (mCons ((M.ret (.int 0)).bind fun d => M.ret (.dat d)) (mCons ((M.ret (.int 0)).bind fun d => M.ret (.dat d)) (mCons ((M.ret (.int 0)).bind fun d => M.ret (.dat d)) (mNil))))).bind fun d => M.ret (.dat d)) (mNil)))).bind fun d => M.ret (.dat d)) (mCons ((mFix tupG (mCons ((M.ret (.int 2)).bind fun d => M.ret (.dat d)) (mCons ((M.ret (.str "Ash")).bind fun d => M.ret (.dat d)) (mNil)))).bind fun d => M.ret (.dat d)) (mCons ((mFix tupG (mCons ((M.ret (.int 3)).bind fun d => M.ret (.dat d)) (mCons ((M.ret (.str "")).bind fun d => M.ret (.dat d)) (mNil)))).bind fun d => M.ret (.dat d)) (mNil))))))))).bind seqItems) (tTup [tName 8, tName 9]) (m_things_b2)
def thP4 : M Out := sFor ((mFix tupG (mCons ((mFix tupG (mCons ((M.ret (.int 4)).bind fun d => M.ret (.dat d)) (mCons (((M.ret (.int 1)).bind negD).bind fun d => M.ret (.dat d)) (mNil)))).bind fun d => M.ret (.dat d)) (mCons ((mFix tupG (mCons ((M.ret (.int 4)).bind fun d => M.ret (.dat d)) (mCons ((m2 gPow ((M.ret (.int 10)).bind fun d => M.ret (.dat d)) ((M.ret (.int 59)).bind fun d => M.ret (.dat d))).bind fun d => M.ret (.dat d)) (mNil)))).bind fun d => M.ret (.dat d)) (mCons ((mFix tupG (mCons ((M.ret (.int 5)).bind fun d => M.ret (.dat d)) (mCons ((M.ret (.bool true)).bind fun d => M.ret (.dat d)) (mNil)))).bind fun d => M.ret (.dat d)) (mCons ((mFix tupG (mCons ((M.ret (.int 5)).bind fun d => M.ret (.dat d)) (mCons ((M.ret .none).bind fun d => M.ret (.dat d)) (mNil)))).bind fun d => M.ret (.dat d)) (mCons ((mFix tupG (mCons ((M.ret (.int 6)).bind fun d => M.ret (.dat d)) (mCons ((M.ret (.int 1)).bind fun d => M.ret (.dat d)) (mNil)))).bind fun d => M.ret (.dat d)) (mCons ((mFix tupG (mCons ((M.ret (.int 6)).bind fun d => M.ret (.dat d)) (mCons ((M.ret .none).bind fun d => M.ret (.dat d)) (mNil)))).bind fun d => M.ret (.dat d)) (mCons ((mFix tupG (mCons ((M.ret (.int 2)).bind fun d => M.ret (.dat d)) (mCons ((M.ret (.str "far")).bind fun d => M.ret (.dat d)) (mNil)))).bind fun d => M.ret (.dat d)) (mCons ((mFix tupG (mCons ((M.ret (.int 3)).bind fun d => M.ret (.dat d)) (mCons ((M.ret (.str "zzzzzzzzz")).bind fun d => M.ret (.dat d)) (mNil)))).bind fun d => M.ret (.dat d)) (mNil)))))))))).bind seqItems) (tTup [tName 8, tName 9]) (m_things_b3)
def thP5 : M Out := sFor ((mFix tupG (mCons (((m1 gRev2 ((m2 gIx (mSlot 4) ((M.ret (.int 2)).bind fun d => M.ret (.dat d))).bind fun d => M.ret (.dat d))).bind fz).bind fun d => M.ret (.dat d)) (mCons (((m2 aAdd ((m2 gIx (mSlot 4) ((M.ret (.int 2)).bind fun d => M.ret (.dat d))).bind fun d => M.ret (.dat d)) (((mSl ((m2 gIx (mSlot 4) ((M.ret (.int 2)).bind fun d => M.ret (.dat d))).bind fun d => M.ret (.dat d)) (((M.ret (.int 1)).bind negD).bind fun d => (asInt d).bind fun i => M.ret (some i)) (M.ret none)).bind fz).bind fun d => M.ret (.dat d))).bind fz).bind fun d => M.ret (.dat d)) (mCons (((mL gList (mCons ((m2 gIx (mSlot 4) ((M.ret (.int 2)).bind fun d => M.ret (.dat d))).bind fun d => M.ret (.dat d)) (mNil))).bind fz).bind fun d => M.ret (.dat d)) (mCons ((mFix tupG (mCons ((mName 3).bind fun d => M.ret (.dat d)) (mNil))).bind fun d => M.ret (.dat d)) (mCons ((mFix tupG (mCons ((mName 3).bind fun d => M.ret (.dat d)) (mCons (((m2 aAdd (((mSl (mSlot 3) (M.ret none) ((M.ret (.int 6)).bind fun d => (asInt d).bind fun i => M.ret (some i))).bind fz).bind fun d => M.ret (.dat d)) ((mFix tupG (mCons ((mNotV (m2 gIx (mSlot 3) ((M.ret (.int 6)).bind fun d => M.ret (.dat d)))).bind fun d => M.ret (.dat d)) (mNil))).bind fun d => M.ret (.dat d))).bind fz).bind fun d => M.ret (.dat d)) (mNil)))).bind fun d => M.ret (.dat d)) (mCons ((mFix tupG (mCons ((mFix tupG (mNil)).bind fun d => M.ret (.dat d)) (mNil))).bind fun d => M.ret (.dat d)) (mNil)))))))).bind seqItems) (tName 10) (m_things_b4)
def thP6 : M Out := sSet 7 (m2 aAdd (mSlot 7) (((mFix lstG (mCons (((m2 aAdd ((mFix tupG (mCons (((M.ret (.int 1)).bind negD).bind fun d => M.ret (.dat d)) (mNil))).bind fun d => M.ret (.dat d)) (((mSl (mSlot 4) ((M.ret (.int 1)).bind fun d => (asInt d).bind fun i => M.ret (some i)) (M.ret none)).bind fz).bind fun d => M.ret (.dat d))).bind fz).bind fun d => M.ret (.dat d)) (mCons ((mFix tupG (mCons ((m2 gIx (mSlot 4) ((M.ret (.int 0)).bind fun d => M.ret (.dat d))).bind fun d => M.ret (.dat d)) (mCons ((M.ret (.bool true)).bind fun d => M.ret (.dat d)) (mCons ((mFix tupG (mNil)).bind fun d => M.ret (.dat d)) (mNil))))).bind fun d => M.ret (.dat d)) (mCons ((mFix tupG (mCons ((m2 gPow ((M.ret (.int 10)).bind fun d => M.ret (.dat d)) ((M.ret (.int 59)).bind fun d => M.ret (.dat d))).bind fun d => M.ret (.dat d)) (mCons ((m2 gPow ((M.ret (.int 10)).bind fun d => M.ret (.dat d)) ((M.ret (.int 59)).bind fun d => M.ret (.dat d))).bind fun d => M.ret (.dat d)) (mCons ((mFix tupG (mNil)).bind fun d => M.ret (.dat d)) (mNil))))).bind fun d => M.ret (.dat d)) (mCons (((mSl (mSlot 4) (M.ret none) ((M.ret (.int 2)).bind fun d => (asInt d).bind fun i => M.ret (some i))).bind fz).bind fun d => M.ret (.dat d)) (mCons (((m2 aAdd (mSlot 4) ((mFix tupG (mCons ((M.ret (.int 0)).bind fun d => M.ret (.dat d)) (mNil))).bind fun d => M.ret (.dat d))).bind fz).bind fun d => M.ret (.dat d)) (mCons ((mFix tupG (mCons ((M.ret (.int 0)).bind fun d => M.ret (.dat d)) (mCons ((M.ret (.int 0)).bind fun d => M.ret (.dat d)) (mCons ((mFix tupG (mNil)).bind fun d => M.ret (.dat d)) (mNil))))).bind fun d => M.ret (.dat d)) (mNil)))))))).bind fz).bind fun d => M.ret (.dat d)))
def thP7 : M Out := sSet 7 (m2 aAdd (mSlot 7) (((mFix lstG (mCons ((mFix tupG (mCons ((mFix tupG (mCons ((M.ret (.str "ash")).bind fun d => M.ret (.dat d)) (mCons ((M.ret (.int 0)).bind fun d => M.ret (.dat d)) (mCons ((M.ret (.int 0)).bind fun d => M.ret (.dat d)) (mNil))))).bind fun d => M.ret (.dat d)) (mCons ((mFix tupG (mCons ((M.ret (.str "elm")).bind fun d => M.ret (.dat d)) (mCons ((M.ret (.int 0)).bind fun d => M.ret (.dat d)) (mCons ((M.ret (.int 0)).bind fun d => M.ret (.dat d)) (mCons ((M.ret (.int 0)).bind fun d => M.ret (.dat d)) (mNil)))))).bind fun d => M.ret (.dat d)) (mNil)))).bind fun d => M.ret (.dat d)) (mCons ((mFix tupG (mCons ((mFix tupG (mCons ((M.ret (.str "ash")).bind fun d => M.ret (.dat d)) (mCons ((M.ret (.int 0)).bind fun d => M.ret (.dat d)) (mCons (((M.ret (.int 1)).bind negD).bind fun d => M.ret (.dat d)) (mNil))))).bind fun d => M.ret (.dat d)) (mNil))).bind fun d => M.ret (.dat d)) (mCons ((mFix tupG (mCons ((mFix tupG (mCons ((M.ret (.str "Ash")).bind fun d => M.ret (.dat d)) (mCons ((M.ret (.int 0)).bind fun d => M.ret (.dat d)) (mCons ((M.ret (.int 0)).bind fun d => M.ret (.dat d)) (mNil))))).bind fun d => M.ret (.dat d)) (mNil))).bind fun d => M.ret (.dat d)) (mCons ((mFix tupG (mCons ((mFix tupG (mCons ((M.ret (.str "ash")).bind fun d => M.ret (.dat d)) (mCons ((M.ret (.bool true)).bind fun d => M.ret (.dat d)) (mCons ((M.ret (.int 0)).bind fun d => M.ret (.dat d)) (mNil))))).bind fun d => M.ret (.dat d)) (mNil))).bind fun d => M.ret (.dat d)) (mNil)))))).bind fz).bind fun d => M.ret (.dat d)))
def thP8 : M Out := sSet 7 (m2 aAdd (mSlot 7) (((mFix lstG (mCons (((m2 aAdd (mSlot 5) ((mFix tupG (mCons ((mFix tupG (mCons ((m2 gIx ((m2 gIx (mSlot 5) (((M.ret (.int 1)).bind negD).bind fun d => M.ret (.dat d))).bind fun d => M.ret (.dat d)) ((M.ret (.int 0)).bind fun d => M.ret (.dat d))).bind fun d => M.ret (.dat d)) (mCons ((m2 gIx ((m2 gIx (mSlot 5) (((M.ret (.int 1)).bind negD).bind fun d => M.ret (.dat d))).bind fun d => M.ret (.dat d)) ((M.ret (.int 1)).bind fun d => M.ret (.dat d))).bind fun d => M.ret (.dat d)) (mCons (((m2 aAdd ((m2 gIx ((m2 gIx (mSlot 5) (((M.ret (.int 1)).bind negD).bind fun d => M.ret (.dat d))).bind fun d => M.ret (.dat d)) ((M.ret (.int 2)).bind fun d => M.ret (.dat d))).bind fun d => M.ret (.dat d)) ((M.ret (.int 1)).bind fun d => M.ret (.dat d))).bind fz).bind fun d => M.ret (.dat d)) (mNil))))).bind fun d => M.ret (.dat d)) (mNil))).bind fun d => M.ret (.dat d))).bind fz).bind fun d => M.ret (.dat d)) (mCons ((mFix tupG (mCons ((mFix tupG (mCons ((M.ret (.str "ash")).bind fun d => M.ret (.dat d)) (mCons (((M.ret (.int 1)).bind negD).bind fun d => M.ret (.dat d)) (mCons ((M.ret (.int 0)).bind fun d => M.ret (.dat d)) (mNil))))).bind fun d => M.ret (.dat d)) (mNil))).bind fun d => M.ret (.dat d)) (mCons ((mFix tupG (mCons ((mFix tupG (mCons ((M.ret (.str "ash")).bind fun d => M.ret (.dat d)) (mCons ((M.ret (.int 0)).bind fun d => M.ret (.dat d)) (mCons ((M.ret (.bool true)).bind fun d => M.ret (.dat d)) (mNil))))).bind fun d => M.ret (.dat d)) (mNil))).bind fun d => M.ret (.dat d)) (mNil))))).bind fz).bind fun d => M.ret (.dat d)))
def thP9 : M Out := sSet 7 (m2 aAdd (mSlot 7) (((mFix lstG (mCons ((M.ret (.str "a1")).bind fun d => M.ret (.dat d)) (mCons ((M.ret (.str "a-b")).bind fun d => M.ret (.dat d)) (mCons ((M.ret (.str "a b")).bind fun d => M.ret (.dat d)) (mCons ((M.ret (.str "{")).bind fun d => M.ret (.dat d)) (mCons ((M.ret (.str "abcdefgh")).bind fun d => M.ret (.dat d)) (mCons ((mFix tupG (mCons ((M.ret (.int 0)).bind fun d => M.ret (.dat d)) (mCons (((M.ret (.int 1)).bind negD).bind fun d => M.ret (.dat d)) (mCons ((mFix tupG (mNil)).bind fun d => M.ret (.dat d)) (mNil))))).bind fun d => M.ret (.dat d)) (mNil)))))))).bind fz).bind fun d => M.ret (.dat d)))
def thP10 : M Out := sFor ((mFix tupG (mCons ((mFix tupG (mCons ((M.ret (.int 2)).bind fun d => M.ret (.dat d)) (mCons ((M.ret (.str "a1")).bind fun d => M.ret (.dat d)) (mNil)))).bind fun d => M.ret (.dat d)) (mCons ((mFix tupG (mCons ((M.ret (.int 3)).bind fun d => M.ret (.dat d)) (mCons ((M.ret (.str "a b")).bind fun d => M.ret (.dat d)) (mNil)))).bind fun d => M.ret (.dat d)) (mCons ((mFix tupG (mCons ((M.ret (.int 2)).bind fun d => M.ret (.dat d)) (mCons ((M.ret (.str "{")).bind fun d => M.ret (.dat d)) (mNil)))).bind fun d => M.ret (.dat d)) (mCons ((mFix tupG (mCons ((M.ret (.int 3)).bind fun d => M.ret (.dat d)) (mCons ((M.ret (.str "a.")).bind fun d => M.ret (.dat d)) (mNil)))).bind fun d => M.ret (.dat d)) (mCons ((mFix tupG (mCons ((M.ret (.int 5)).bind fun d => M.ret (.dat d)) (mCons (((M.ret (.int 1)).bind negD).bind fun d => M.ret (.dat d)) (mNil)))).bind fun d => M.ret (.dat d)) (mCons ((mFix tupG (mCons ((M.ret (.int 1)).bind fun d => M.ret (.dat d)) (mCons ((mFix tupG (mCons (((M.ret (.int 1)).bind negD).bind fun d => M.ret (.dat d)) (mCons ((M.ret (.int 0)).bind fun d => M.ret (.dat d)) (mNil)))).bind fun d => M.ret (.dat d)) (mNil)))).bind fun d => M.ret (.dat d)) (mNil)))))))).bind seqItems) (tTup [tName 8, tName 9]) (m_things_b5)
theorem things_eq : m_things = sSeq thP0 (sSeq thP1 (sSeq thP2 (sSeq thP3 (sSeq thP4 (sSeq thP5 (sSeq thP6 (sSeq thP7 (sSeq thP8 (sSeq thP9 (sSeq thP10 (sRet (mTake 7)))))))))))) := rfl
abbrev TT (d : PyData) : Prop := Th 60 100000 6 d
def six (r : Row) (l : Lot) (w : List Told) (p : Hand × Hand) : List PyData := [rd r, lotD l, newsD w, pd p, hd p.2, .tuple [hd p.2, hd p.1]]
def Fnd (r : Row) (l : Lot) (w : List Told) (p : Hand × Hand) (F : List PyData) (n : Nat) : Prop := ∃ rest, F = six r l w p ++ rest ∧ (∀ d ∈ rest, TT d) ∧ rest.length ≤ n
theorem Fnd.len {r : Row} {l : Lot} {w : List Told} {p : Hand × Hand} {F : List PyData} {n : Nat} (h : Fnd r l w p F n) : F.length ≤ n + 6 := by
  obtain ⟨rest, rfl, _, hl⟩ := h
  rw [List.length_append]
  have : (six r l w p).length = 6 := rfl
  omega
theorem Fnd.add {r : Row} {l : Lot} {w : List Told} {p : Hand × Hand} {F new : List PyData} {n m : Nat} (h : Fnd r l w p F n) (hn : ∀ d ∈ new, TT d) (hm : n + new.length ≤ m) : Fnd r l w p (F ++ new) m := by
  obtain ⟨rest, rfl, hr, hl⟩ := h
  refine ⟨rest ++ new, by rw [List.append_assoc], fun d hd => ?_, by rw [List.length_append]; omega⟩
  rcases List.mem_append.mp hd with hd | hd
  · exact hr d hd
  · exact hn d hd
theorem TT.of {q n k : Nat} {d : PyData} (h : Th q n k d) (h1 : n ≤ 100000) (h2 : k ≤ 6) (h3 : q ≤ 60) : TT d := h.mono h1 h2 h3 (by decide)
section
variable {kv : List (Key × PyData)} {o1 o2 a b c : Option OD} {r : Row} {l : Lot} {w : List Told} {p : Hand × Hand} {F : List PyData}
def news1 (p : Hand × Hand) : List PyData := [.tuple [hd p.1, hd p.1], .list [hd p.1, hd p.2], .list [.str p.1.1, .str p.1.2], .tuple [hd p.1, hd p.2, hd p.1]]
theorem th_p1 : thP1 [some (.od kv), o1, o2, some (.sh (rd r)), some (.sh (lotD l)), some (.sh (newsD w)), some (.sh (pd p)), none, a, b, c, none] = .ok .nx [some (.od kv), o1, o2, some (.sh (rd r)), some (.sh (lotD l)), some (.sh (newsD w)), some (.sh (pd p)), some (.ol (six r l w p ++ news1 p)), a, b, c, none] := by
  have g0 : gIx (pd p) (.int 0) = some (hd p.1) := rfl
  have g1 : gIx (pd p) (.int 1) = some (hd p.2) := rfl
  have rv : gRev2 (pd p) = some (.sh (.tuple [hd p.2, hd p.1])) := rfl
  have li : gList [pd p] = some (.ol [hd p.1, hd p.2]) := rfl
  have lh : gList [hd p.1] = some (.ol [.str p.1.1, .str p.1.2]) := rfl
  have sl : gSl (pd p) none (some 1) = some (.sh (.tuple [hd p.1])) := rfl
  have ad : aAdd (pd p) (.tuple [hd p.1]) = some (.sh (.tuple [hd p.1, hd p.2, hd p.1])) := aAdd_tt (xs := [hd p.1, hd p.2]) (ys := [hd p.1]) (show 3 ≤ sizeLine by decide)
  have l10 : lstG (six r l w p ++ news1 p) = some (.ol (six r l w p ++ news1 p)) := lstG_ok (show 10 ≤ sizeLine by decide)
  unfold thP1
  unfold six news1 at l10 ⊢
  simp only [List.cons_append, List.nil_append] at l10
  simp?! only [g0, g1, rv, li, lh, sl, ad, v_ai2, l10, List.cons_append, List.nil_append]
theorem news1_th (hp : PairT p) : ∀ d ∈ news1 p, TT d := by
  have h1 := hd_th hp.1.1 hp.1.2
  have h2 := hd_th hp.2.1 hp.2.2
  intro d hd
  simp only [news1, List.mem_cons, List.not_mem_nil, or_false] at hd
  rcases hd with rfl | rfl | rfl | rfl
  · exact TT.of (Ths.cons h1 (Ths.cons h1 nil60)).tup (by decide) (by decide) (by decide)
  · exact TT.of (Ths.cons h1 (Ths.cons h2 nil60)).lst (by decide) (by decide) (by decide)
  · exact TT.of (Ths.cons hp.1.1.th (Ths.cons hp.1.2.th nil60)).lst (by decide) (by decide) (by decide)
  · exact TT.of (Ths.cons h1 (Ths.cons h2 (Ths.cons h1 nil60))).tup (by decide) (by decide) (by decide)
def two2 (t : Told) : PyData := .tuple [.str t.1, .int t.2.1]
def news2 (r : Row) (w : List Told) : List PyData := [.tuple (w.map td).reverse, .tuple (w.map td ++ cutD (w.map td) (some (-1)) none), .tuple (cutD (w.map td) none (some 1)), .list (w.map td), .tuple (w.map two2), .list [pd r.p, .tuple [.int r.a, .int r.b], .str r.place, .str r.giver, .int r.u, .int r.free, .bool r.here]]
theorem th_p2 (hw : w.length ≤ 5) (hF : F.length ≤ 1000) : thP2 [some (.od kv), o1, o2, some (.sh (rd r)), some (.sh (lotD l)), some (.sh (newsD w)), some (.sh (pd p)), some (.ol F), a, b, c, none] = .ok .nx [some (.od kv), o1, o2, some (.sh (rd r)), some (.sh (lotD l)), some (.sh (newsD w)), some (.sh (pd p)), some (.ol (F ++ news2 r w)), a, b, c, none] := by
  have z := sizeLine_eq
  have rv : gRev2 (newsD w) = some (.sh (.tuple (w.map td).reverse)) := rfl
  have li : gList [newsD w] = some (.ol (w.map td)) := rfl
  have lr : gList [rd r] = some (.ol [pd r.p, .tuple [.int r.a, .int r.b], .str r.place, .str r.giver, .int r.u, .int r.free, .bool r.here]) := rfl
  have s1 : gSl (newsD w) (some (-1)) none = some (.sh (.tuple (cutD (w.map td) (some (-1)) none))) := rfl
  have s2 : gSl (newsD w) none (some 1) = some (.sh (.tuple (cutD (w.map td) none (some 1)))) := rfl
  have lc := (cut_sub (w.map td) (some (-1)) none).length_le
  rw [List.length_map] at lc
  have ad : aAdd (newsD w) (.tuple (cutD (w.map td) (some (-1)) none)) = some (.sh (.tuple (w.map td ++ cutD (w.map td) (some (-1)) none))) := aAdd_tt (by rw [List.length_map]; omega)
  have hc : mComp ((mName 5).bind seqItems) (tName 11) (M.ret true) m_things_e1 [11] [some (.od kv), o1, o2, some (.sh (rd r)), some (.sh (lotD l)), some (.sh (newsD w)), some (.sh (pd p)), some (.ol F), a, b, c, none] = .ok (.ol (w.map two2)) [some (.od kv), o1, o2, some (.sh (rd r)), some (.sh (lotD l)), some (.sh (newsD w)), some (.sh (pd p)), some (.ol F), a, b, c, none] := by
    refine comp_pure (f := td) two2 (by unfold newsD; simp?! only []) (by omega) fun t ht => ⟨[some (.od kv), o1, o2, some (.sh (rd r)), some (.sh (lotD l)), some (.sh (newsD w)), some (.sh (pd p)), some (.ol F), a, b, c, some (.sh (td t))], [some (.od kv), o1, o2, some (.sh (rd r)), some (.sh (lotD l)), some (.sh (newsD w)), some (.sh (pd p)), some (.ol F), a, b, c, some (.sh (td t))], rfl, ?_, rfl⟩
    have : gSl (td t) none (some 2) = some (.sh (two2 t)) := rfl
    unfold m_things_e1
    simp?! only [this, v_ai2]
  have af : aAdd (.list F) (.list (news2 r w)) = some (.ol (F ++ news2 r w)) := aAdd_ll (by rw [show (news2 r w).length = 6 from rfl]; omega)
  unfold thP2
  unfold news2 at af ⊢
  simp?! only [rv, li, lr, s1, s2, ad, hc, af, v_ai2, gTuple_l]
theorem news2_th {ts : List Str} (hr : RowT r) (hw : NewsT ts w) : ∀ d ∈ news2 r w, TT d := by
  have hn := news_ths hw
  intro d hd
  simp only [news2, List.mem_cons, List.not_mem_nil, or_false] at hd
  rcases hd with rfl | rfl | rfl | rfl | rfl | rfl
  · exact TT.of hn.rev.tup (by decide) (by decide) (by decide)
  · exact TT.of (hn.append (hn.sub (cut_sub _ _ _))).tup (by decide) (by decide) (by decide)
  · exact TT.of (hn.sub (cut_sub _ _ _)).tup (by decide) (by decide) (by decide)
  · exact TT.of hn.lst (by decide) (by decide) (by decide)
  · have : Ths 60 420 1 (w.map two2) := (Ths.all (q := 60) (n := 80) (k := 1) (fun d hd => by
      obtain ⟨t, ht, rfl⟩ := List.mem_map.mp hd
      have a := five_town t.1 (hw.2.mem (by rw [← hw.1.1]; exact List.mem_map_of_mem ht))
      have b := hw.1.2 t ht
      exact (Ths.cons a.th (Ths.cons (Th.int (m := 60) (n := 11) (by omega) (by decide) (by decide)) nil60)).tup.mono (by decide) (by decide)) (by decide)).mono (by
      rw [List.length_map]
      have := Nat.mul_le_mul_right (80 + 2) (news_len hw)
      omega) (Nat.le_refl _)
    exact TT.of this.tup (by decide) (by decide) (by decide)
  · exact TT.of (row_cells hr).lst (by decide) (by decide) (by decide)
/-- a row with one thing in another's place -/
def bentRow (r : Row) (x : Int × PyData) : PyData := .tuple (cutD [pd r.p, .tuple [.int r.a, .int r.b], .str r.place, .str r.giver, .int r.u, .int r.free, .bool r.here] none (some x.1) ++ [x.2] ++ cutD [pd r.p, .tuple [.int r.a, .int r.b], .str r.place, .str r.giver, .int r.u, .int r.free, .bool r.here] (some (x.1 + 1)) none)
def OddT (x : Int × PyData) : Prop := Th 60 2000 3 x.2
theorem bentRow_th (hr : RowT r) {x : Int × PyData} (hx : OddT x) : TT (bentRow r x) := by
  have hc := row_cells hr
  exact TT.of ((((hc.sub (cut_sub _ _ _)).mono (Nat.le_refl _) (by decide) (Nat.le_refl _) (by decide) |>.append (Ths.cons hx nil60)).append ((hc.sub (cut_sub _ _ _)).mono (Nat.le_refl _) (by decide) (Nat.le_refl _) (by decide))).tup) (by decide) (by decide) (by decide)
theorem th_row {x : Int × PyData} (hF : F.length ≤ 1000) : m_things_b2 [some (.od kv), o1, o2, some (.sh (rd r)), some (.sh (lotD l)), some (.sh (newsD w)), some (.sh (pd p)), some (.ol F), some (.sh (.int x.1)), some (.sh x.2), c, none] = .ok .nx [some (.od kv), o1, o2, some (.sh (rd r)), some (.sh (lotD l)), some (.sh (newsD w)), some (.sh (pd p)), some (.ol (F ++ [bentRow r x])), some (.sh (.int x.1)), some (.sh x.2), c, none] := by
  have z := sizeLine_eq
  have l1 := (cut_sub [pd r.p, .tuple [.int r.a, .int r.b], .str r.place, .str r.giver, .int r.u, .int r.free, .bool r.here] none (some x.1)).length_le
  have l2 := (cut_sub [pd r.p, .tuple [.int r.a, .int r.b], .str r.place, .str r.giver, .int r.u, .int r.free, .bool r.here] (some (x.1 + 1)) none).length_le
  have s1 : gSl (rd r) none (some x.1) = some (.sh (.tuple (cutD [pd r.p, .tuple [.int r.a, .int r.b], .str r.place, .str r.giver, .int r.u, .int r.free, .bool r.here] none (some x.1)))) := rfl
  have s2 : gSl (rd r) (some (x.1 + 1)) none = some (.sh (.tuple (cutD [pd r.p, .tuple [.int r.a, .int r.b], .str r.place, .str r.giver, .int r.u, .int r.free, .bool r.here] (some (x.1 + 1)) none))) := rfl
  unfold bentRow
  generalize cutD [pd r.p, .tuple [.int r.a, .int r.b], .str r.place, .str r.giver, .int r.u, .int r.free, .bool r.here] none (some x.1) = A at s1 l1
  generalize cutD [pd r.p, .tuple [.int r.a, .int r.b], .str r.place, .str r.giver, .int r.u, .int r.free, .bool r.here] (some (x.1 + 1)) none = B at s2 l2
  have e7 : ([pd r.p, .tuple [.int r.a, .int r.b], .str r.place, .str r.giver, .int r.u, .int r.free, .bool r.here] : List PyData).length = 7 := rfl
  have a1 : aAdd (.tuple A) (.tuple [x.2]) = some (.sh (.tuple (A ++ [x.2]))) := aAdd_tt (by simp only [List.length_cons, List.length_nil]; omega)
  have a2 : aAdd (.tuple (A ++ [x.2])) (.tuple B) = some (.sh (.tuple (A ++ [x.2] ++ B))) := aAdd_tt (by rw [List.length_append]; simp only [List.length_cons, List.length_nil]; omega)
  have lF : F.length < sizeLine := by omega
  unfold m_things_b2
  simp?! only [s1, s2, a1, a2, v_ai2, lF]
theorem rows_loop {k n : Nat} (hr : RowT r) (xs : List (Int × PyData)) (hx : ∀ x ∈ xs, OddT x) (hF : Fnd r l w p F n) (hn : n + xs.length ≤ 100) : ∃ F' a' b', Fnd r l w p F' (n + xs.length) ∧ sLoop (tTup [tName 8, tName 9]) m_things_b2 (xs.map fun x => .tuple [.int x.1, x.2]) [some (.od kv), o1, o2, some (.sh (rd r)), some (.sh (lotD l)), some (.sh (newsD w)), some (.sh (pd p)), some (.ol F), a, b, c, none] = .ok .nx [some (.od kv), o1, o2, some (.sh (rd r)), some (.sh (lotD l)), some (.sh (newsD w)), some (.sh (pd p)), some (.ol F'), a', b', c, none] := by
  obtain ⟨ρ', e, _, F', a', b', m, hm, hf, rfl⟩ := loop_inv (f := fun x : Int × PyData => .tuple [.int x.1, x.2]) (t := tTup [tName 8, tName 9]) (b := m_things_b2)
    (fun rest ρ => (∀ x ∈ rest, OddT x) ∧ ∃ F' a' b' m, m + rest.length = n + xs.length ∧ Fnd r l w p F' m ∧ ρ = [some (.od kv), o1, o2, some (.sh (rd r)), some (.sh (lotD l)), some (.sh (newsD w)), some (.sh (pd p)), some (.ol F'), a', b', c, none]) (fun x rest ρ ⟨hx, F', a', b', m, hm, hf, e⟩ => by
      subst e
      have hl := hf.len
      rw [List.length_cons] at hm
      refine ⟨_, _, rfl, Or.inl (th_row (x := x) (by omega)), fun y hy => hx y (List.mem_cons_of_mem _ hy), F' ++ [bentRow r x], _, _, m + 1, by omega, ?_, rfl⟩
      exact hf.add (fun d hd => by rw [List.mem_singleton.mp hd]; exact bentRow_th hr (hx x List.mem_cons_self)) (by rw [List.length_singleton]; omega)) xs [some (.od kv), o1, o2, some (.sh (rd r)), some (.sh (lotD l)), some (.sh (newsD w)), some (.sh (pd p)), some (.ol F), a, b, c, none] ⟨hx, F, a, b, n, rfl, hF, rfl⟩
  rw [List.length_nil, Nat.add_zero] at hm
  subst hm
  exact ⟨F', a', b', hf, e⟩
def odds3 (p : Hand × Hand) : List (Int × PyData) := [(0, .tuple [hd p.2, hd p.1]), (1, .tuple [.int 0, .int (-1)]), (1, .tuple [.bool true, .int 0]), (1, .list [.int 0, .int 0]), (1, .tuple [.int 0, .int 0, .int 0]), (2, .str "Ash"), (3, .str "")]
def odds4 : List (Int × PyData) := [(4, .int (-1)), (4, .int (10 ^ (59 : Int).toNat)), (5, .bool true), (5, .none), (6, .int 1), (6, .none), (2, .str "far"), (3, .str "zzzzzzzzz")]
def odds10 : List (Int × PyData) := [(2, .str "a1"), (3, .str "a b"), (2, .str "{"), (3, .str "a."), (5, .int (-1)), (1, .tuple [.int (-1), .int 0])]
theorem odds3_ok (hp : PairT p) : ∀ x ∈ odds3 p, OddT x := by
  have h1 := hd_th hp.1.1 hp.1.2
  have h2 := hd_th hp.2.1 hp.2.2
  intro x hx
  unfold odds3 at hx
  rcases List.mem_cons.mp hx with rfl | hx
  · exact (Ths.cons h2 (Ths.cons h1 nil60)).tup.mono (by decide) (by decide)
  · have : ∀ x ∈ ([(1, .tuple [.int 0, .int (-1)]), (1, .tuple [.bool true, .int 0]), (1, .list [.int 0, .int 0]), (1, .tuple [.int 0, .int 0, .int 0]), (2, .str "Ash"), (3, .str "")] : List (Int × PyData)), thB 60 2000 3 x.2 = true := by decide +kernel
    exact Th.ofB (this x hx) (by decide)
theorem odds4_ok : ∀ x ∈ odds4, OddT x := fun x hx => by
  have : ∀ x ∈ odds4, thB 60 2000 3 x.2 = true := by decide +kernel
  exact Th.ofB (this x hx) (by decide)
theorem odds10_ok : ∀ x ∈ odds10, OddT x := fun x hx => by
  have : ∀ x ∈ odds10, thB 60 2000 3 x.2 = true := by decide +kernel
  exact Th.ofB (this x hx) (by decide)
theorem th_p3 {n : Nat} (hr : RowT r) (hp : PairT p) (hF : Fnd r l w p F n) (hn : n + 7 ≤ 100) : ∃ F' a' b', Fnd r l w p F' (n + 7) ∧ thP3 [some (.od kv), o1, o2, some (.sh (rd r)), some (.sh (lotD l)), some (.sh (newsD w)), some (.sh (pd p)), some (.ol F), a, b, c, none] = .ok .nx [some (.od kv), o1, o2, some (.sh (rd r)), some (.sh (lotD l)), some (.sh (newsD w)), some (.sh (pd p)), some (.ol F'), a', b', c, none] := by
  obtain ⟨F', a', b', hf, e⟩ := rows_loop (a := a) (b := b) (c := c) (kv := kv) (o1 := o1) (o2 := o2) (k := 0) hr (odds3 p) (odds3_ok hp) hF hn
  refine ⟨F', a', b', hf, ?_⟩
  have rv : gRev2 (pd p) = some (.sh (.tuple [hd p.2, hd p.1])) := rfl
  unfold odds3 at e
  simp only [List.map_cons, List.map_nil] at e
  unfold thP3
  simp?! only [rv, e]
theorem th_p4 {n : Nat} (hr : RowT r) (hF : Fnd r l w p F n) (hn : n + 8 ≤ 100) : ∃ F' a' b', Fnd r l w p F' (n + 8) ∧ thP4 [some (.od kv), o1, o2, some (.sh (rd r)), some (.sh (lotD l)), some (.sh (newsD w)), some (.sh (pd p)), some (.ol F), a, b, c, none] = .ok .nx [some (.od kv), o1, o2, some (.sh (rd r)), some (.sh (lotD l)), some (.sh (newsD w)), some (.sh (pd p)), some (.ol F'), a', b', c, none] := by
  obtain ⟨F', a', b', hf, e⟩ := rows_loop (a := a) (b := b) (c := c) (kv := kv) (o1 := o1) (o2 := o2) (k := 0) hr odds4 odds4_ok hF hn
  refine ⟨F', a', b', hf, ?_⟩
  have p59 : gPow (.int 10) (.int 59) = some (.int (10 ^ (59 : Int).toNat)) := gPow_int (by decide)
  have t8 : tupG (odds4.map fun x => PyData.tuple [.int x.1, x.2]) = some (.tuple (odds4.map fun x => PyData.tuple [.int x.1, x.2])) := if_pos (show 8 ≤ sizeLine by decide)
  unfold odds4 at e t8
  simp only [List.map_cons, List.map_nil] at e t8
  have e' : sLoop (tTup [tName 8, tName 9]) m_things_b3 _ _ = _ := e
  unfold thP4
  simp?! only [p59, t8, e']
theorem th_p10 {n : Nat} (hr : RowT r) (hF : Fnd r l w p F n) (hn : n + 6 ≤ 100) : ∃ F' a' b', Fnd r l w p F' (n + 6) ∧ thP10 [some (.od kv), o1, o2, some (.sh (rd r)), some (.sh (lotD l)), some (.sh (newsD w)), some (.sh (pd p)), some (.ol F), a, b, c, none] = .ok .nx [some (.od kv), o1, o2, some (.sh (rd r)), some (.sh (lotD l)), some (.sh (newsD w)), some (.sh (pd p)), some (.ol F'), a', b', c, none] := by
  obtain ⟨F', a', b', hf, e⟩ := rows_loop (a := a) (b := b) (c := c) (kv := kv) (o1 := o1) (o2 := o2) (k := 0) hr odds10 odds10_ok hF hn
  refine ⟨F', a', b', hf, ?_⟩
  unfold odds10 at e
  simp only [List.map_cons, List.map_nil] at e
  have e' : sLoop (tTup [tName 8, tName 9]) m_things_b5 _ _ = _ := e
  unfold thP10
  simp?! only [e']
end
end Lw
set_option exponentiation.threshold 10000
namespace Lw
open PySem L2 PySem.W PySem.SeqAt Eg
section
variable {kv : List (Key × PyData)} {o1 o2 a b c : Option OD} {r : Row} {l : Lot} {w : List Told} {p : Hand × Hand} {F : List PyData}
def bentLot (l : Lot) (x : PyData) : PyData := .tuple [.int l.turn, .int l.floor, x]
def RowsT (x : PyData) : Prop := Th 60 70000 5 x
theorem bentLot_th (hl : LotT l) {x : PyData} (hx : RowsT x) : TT (bentLot l x) :=
  TT.of (Ths.cons (hl.turn.th.mono (Nat.le_refl _) (by decide)) (Ths.cons (hl.floor.th.mono (Nat.le_refl _) (by decide)) (Ths.cons hx nil60))).tup (by decide) (by decide) (by decide)
theorem th_lot {x : PyData} (hF : F.length ≤ 1000) : m_things_b4 [some (.od kv), o1, o2, some (.sh (rd r)), some (.sh (lotD l)), some (.sh (newsD w)), some (.sh (pd p)), some (.ol F), a, b, some (.sh x), none] = .ok .nx [some (.od kv), o1, o2, some (.sh (rd r)), some (.sh (lotD l)), some (.sh (newsD w)), some (.sh (pd p)), some (.ol (F ++ [bentLot l x])), a, b, some (.sh x), none] := by
  have z := sizeLine_eq
  have s1 : gSl (lotD l) none (some 2) = some (.sh (.tuple [.int l.turn, .int l.floor])) := rfl
  have a1 : aAdd (.tuple [.int l.turn, .int l.floor]) (.tuple [x]) = some (.sh (bentLot l x)) := aAdd_tt (xs := [.int l.turn, .int l.floor]) (ys := [x]) (show 3 ≤ sizeLine by decide)
  have lF : F.length < sizeLine := by omega
  unfold m_things_b4
  simp?! only [s1, a1, v_ai2, lF]
theorem lots_loop {n : Nat} (hl : LotT l) (xs : List PyData) (hx : ∀ x ∈ xs, RowsT x) (hF : Fnd r l w p F n) (hn : n + xs.length ≤ 100) : ∃ F' c', Fnd r l w p F' (n + xs.length) ∧ sLoop (tName 10) m_things_b4 xs [some (.od kv), o1, o2, some (.sh (rd r)), some (.sh (lotD l)), some (.sh (newsD w)), some (.sh (pd p)), some (.ol F), a, b, c, none] = .ok .nx [some (.od kv), o1, o2, some (.sh (rd r)), some (.sh (lotD l)), some (.sh (newsD w)), some (.sh (pd p)), some (.ol F'), a, b, c', none] := by
  obtain ⟨ρ', e, _, F', c', m, hm, hf, rfl⟩ := loop_inv (f := id) (t := tName 10) (b := m_things_b4)
    (fun rest ρ => (∀ x ∈ rest, RowsT x) ∧ ∃ F' c' m, m + rest.length = n + xs.length ∧ Fnd r l w p F' m ∧ ρ = [some (.od kv), o1, o2, some (.sh (rd r)), some (.sh (lotD l)), some (.sh (newsD w)), some (.sh (pd p)), some (.ol F'), a, b, c', none]) (fun x rest ρ ⟨hx, F', c', m, hm, hf, e⟩ => by
      subst e
      have hlen := hf.len
      rw [List.length_cons] at hm
      refine ⟨_, _, rfl, Or.inl (th_lot (x := x) (by omega)), fun y hy => hx y (List.mem_cons_of_mem _ hy), F' ++ [bentLot l x], _, m + 1, by omega, ?_, rfl⟩
      exact hf.add (fun d hd => by rw [List.mem_singleton.mp hd]; exact bentLot_th hl (hx x List.mem_cons_self)) (by rw [List.length_singleton]; omega)) xs [some (.od kv), o1, o2, some (.sh (rd r)), some (.sh (lotD l)), some (.sh (newsD w)), some (.sh (pd p)), some (.ol F), a, b, c, none] ⟨hx, F, c, n, rfl, hF, rfl⟩
  rw [List.length_nil, Nat.add_zero] at hm
  subst hm
  rw [List.map_id] at e
  exact ⟨F', c', hf, e⟩
def cells6 (r : Row) : List PyData := [pd r.p, .tuple [.int r.a, .int r.b], .str r.place, .str r.giver, .int r.u, .int r.free]
def turned (r : Row) : PyData := .tuple [pd r.p, .tuple [.int r.a, .int r.b], .str r.place, .str r.giver, .int r.u, .int r.free, .bool (!r.here)]
def lots5 (r : Row) (l : Lot) : List PyData := [.tuple (l.rows.map rd).reverse, .tuple (l.rows.map rd ++ cutD (l.rows.map rd) (some (-1)) none), .list (l.rows.map rd), .tuple [rd r], .tuple [rd r, turned r], .tuple [.tuple []]]
theorem lots5_ok (hr : RowT r) (hl : LotT l) : ∀ x ∈ lots5 r l, RowsT x := by
  have ht := rows_th hl
  have h1 := (rd_th hr).mono (n' := 333) (k' := 3) (Nat.le_refl _) (Nat.le_refl _) (Nat.le_refl _) (by decide)
  have h2 : Th 60 333 3 (turned r) := rd_th (r := ⟨r.p, r.a, r.b, r.place, r.giver, r.u, r.free, !r.here⟩) ⟨hr.p, hr.a, hr.b, hr.place, hr.giver, hr.u, hr.free⟩
  intro d hd
  simp only [lots5, List.mem_cons, List.not_mem_nil, or_false] at hd
  rcases hd with rfl | rfl | rfl | rfl | rfl | rfl
  · exact ht.rev.tup.mono (by decide) (by decide)
  · exact (ht.append (ht.sub (cut_sub _ _ _))).tup.mono (by decide) (by decide)
  · exact ht.lst.mono (by decide) (by decide)
  · exact (Ths.cons h1 nil60).tup.mono (by decide) (by decide)
  · exact (Ths.cons h1 (Ths.cons h2 nil60)).tup.mono (by decide) (by decide)
  · exact (Th.ofB (m := 60) (n := 70000) (k := 5) (by decide +kernel) (by decide))
theorem th_p5 {n : Nat} (hr : RowT r) (hl : LotT l) (hF : Fnd r l w p F n) (hn : n + 6 ≤ 100) : ∃ F' c', Fnd r l w p F' (n + 6) ∧ thP5 [some (.od kv), o1, o2, some (.sh (rd r)), some (.sh (lotD l)), some (.sh (newsD w)), some (.sh (pd p)), some (.ol F), a, b, c, none] = .ok .nx [some (.od kv), o1, o2, some (.sh (rd r)), some (.sh (lotD l)), some (.sh (newsD w)), some (.sh (pd p)), some (.ol F'), a, b, c', none] := by
  have z := sizeLine_eq
  obtain ⟨F', c', hf, e⟩ := lots_loop (a := a) (b := b) (c := c) (kv := kv) (o1 := o1) (o2 := o2) hl (lots5 r l) (lots5_ok hr hl) hF hn
  refine ⟨F', c', hf, ?_⟩
  have g2 : gIx (lotD l) (.int 2) = some (.tuple (l.rows.map rd)) := rfl
  have s1 : gSl (.tuple (l.rows.map rd)) (some (-1)) none = some (.sh (.tuple (cutD (l.rows.map rd) (some (-1)) none))) := rfl
  have lc := (cut_sub (l.rows.map rd) (some (-1)) none).length_le
  have hll := hl.len
  rw [List.length_map] at lc
  have a1 : aAdd (.tuple (l.rows.map rd)) (.tuple (cutD (l.rows.map rd) (some (-1)) none)) = some (.sh (.tuple (l.rows.map rd ++ cutD (l.rows.map rd) (some (-1)) none))) := aAdd_tt (by rw [List.length_map]; omega)
  have s2 : gSl (rd r) none (some 6) = some (.sh (.tuple (cells6 r))) := rfl
  have g6 : gIx (rd r) (.int 6) = some (.bool r.here) := rfl
  have a2 : aAdd (.tuple (cells6 r)) (.tuple [.bool !r.here]) = some (.sh (turned r)) := aAdd_tt (xs := cells6 r) (ys := [.bool !r.here]) (show 7 ≤ sizeLine by decide)
  unfold lots5 at e
  unfold thP5
  simp?! only [g2, s1, a1, s2, g6, a2, e, v_ai2, gRev2_t, gList_tt]
def new6 (l : Lot) : List PyData := [.tuple [.int (-1), .int l.floor, .tuple (l.rows.map rd)], .tuple [.int l.turn, .bool true, .tuple []], .tuple [.int (10 ^ (59 : Int).toNat), .int (10 ^ (59 : Int).toNat), .tuple []], .tuple [.int l.turn, .int l.floor], .tuple [.int l.turn, .int l.floor, .tuple (l.rows.map rd), .int 0], .tuple [.int 0, .int 0, .tuple []]]
theorem new6_ok (hl : LotT l) : ∀ x ∈ new6 l, TT x := by
  have ht := (rows_th hl).tup
  have t1 : Th 60 3 4 (.int l.turn) := hl.turn.th.mono (Nat.le_refl _) (by decide)
  have f1 : Th 60 3 4 (.int l.floor) := hl.floor.th.mono (Nat.le_refl _) (by decide)
  have m1 : Th 60 3 4 (.int (-1)) := Th.ofB (by decide +kernel) (by decide)
  have z1 : Th 60 3 4 (.int 0) := Th.ofB (by decide +kernel) (by decide)
  have b1 : Th 60 5 4 (.bool true) := Th.ofB (by decide +kernel) (by decide)
  have e1 : Th 60 5 4 (.tuple []) := Th.ofB (by decide +kernel) (by decide)
  intro d hd
  simp only [new6, List.mem_cons, List.not_mem_nil, or_false] at hd
  rcases hd with rfl | rfl | rfl | rfl | rfl | rfl
  · exact TT.of (Ths.cons m1 (Ths.cons f1 (Ths.cons ht nil60))).tup (by decide) (by decide) (by decide)
  · exact TT.of (Ths.cons t1 (Ths.cons b1 (Ths.cons e1 nil60))).tup (by decide) (by decide) (by decide)
  · exact Th.ofB (by decide +kernel) (by decide)
  · exact TT.of (Ths.cons t1 (Ths.cons f1 nil60)).tup (by decide) (by decide) (by decide)
  · exact TT.of (Ths.cons t1 (Ths.cons f1 (Ths.cons ht (Ths.cons z1 nil60)))).tup (by decide) (by decide) (by decide)
  · exact Th.ofB (by decide +kernel) (by decide)
theorem th_p6 (hF : F.length ≤ 1000) : thP6 [some (.od kv), o1, o2, some (.sh (rd r)), some (.sh (lotD l)), some (.sh (newsD w)), some (.sh (pd p)), some (.ol F), a, b, c, none] = .ok .nx [some (.od kv), o1, o2, some (.sh (rd r)), some (.sh (lotD l)), some (.sh (newsD w)), some (.sh (pd p)), some (.ol (F ++ new6 l)), a, b, c, none] := by
  have z := sizeLine_eq
  have p59 : gPow (.int 10) (.int 59) = some (.int (10 ^ (59 : Int).toNat)) := gPow_int (by decide)
  have g0 : gIx (lotD l) (.int 0) = some (.int l.turn) := rfl
  have s1 : gSl (lotD l) (some 1) none = some (.sh (.tuple [.int l.floor, .tuple (l.rows.map rd)])) := rfl
  have s2 : gSl (lotD l) none (some 2) = some (.sh (.tuple [.int l.turn, .int l.floor])) := rfl
  have a1 : aAdd (.tuple [.int (-1)]) (.tuple [.int l.floor, .tuple (l.rows.map rd)]) = some (.sh (.tuple [.int (-1), .int l.floor, .tuple (l.rows.map rd)])) := aAdd_tt (xs := [.int (-1)]) (ys := [.int l.floor, .tuple (l.rows.map rd)]) (show 3 ≤ sizeLine by decide)
  have a2 : aAdd (lotD l) (.tuple [.int 0]) = some (.sh (.tuple [.int l.turn, .int l.floor, .tuple (l.rows.map rd), .int 0])) := aAdd_tt (xs := [.int l.turn, .int l.floor, .tuple (l.rows.map rd)]) (ys := [.int 0]) (show 4 ≤ sizeLine by decide)
  have af : aAdd (.list F) (.list (new6 l)) = some (.ol (F ++ new6 l)) := aAdd_ll (by rw [show (new6 l).length = 6 from rfl]; omega)
  unfold thP6
  unfold new6 at af ⊢
  simp?! only [p59, g0, s1, s2, a1, a2, af, v_ai2]
def new7 : List PyData := [.tuple [.tuple [.str "ash", .int 0, .int 0], .tuple [.str "elm", .int 0, .int 0, .int 0]], .tuple [.tuple [.str "ash", .int 0, .int (-1)]], .tuple [.tuple [.str "Ash", .int 0, .int 0]], .tuple [.tuple [.str "ash", .bool true, .int 0]]]
def new9 : List PyData := [.str "a1", .str "a-b", .str "a b", .str "{", .str "abcdefgh", .tuple [.int 0, .int (-1), .tuple []]]
theorem new79_ok : ∀ d ∈ new7 ++ new9, TT d := fun d hd => by
  have : ∀ d ∈ new7 ++ new9, thB 60 100000 6 d = true := by decide +kernel
  exact Th.ofB (this d hd) (by decide)
theorem th_p7 (hF : F.length ≤ 1000) : thP7 [some (.od kv), o1, o2, some (.sh (rd r)), some (.sh (lotD l)), some (.sh (newsD w)), some (.sh (pd p)), some (.ol F), a, b, c, none] = .ok .nx [some (.od kv), o1, o2, some (.sh (rd r)), some (.sh (lotD l)), some (.sh (newsD w)), some (.sh (pd p)), some (.ol (F ++ new7)), a, b, c, none] := by
  have z := sizeLine_eq
  have af : aAdd (.list F) (.list new7) = some (.ol (F ++ new7)) := aAdd_ll (by rw [show new7.length = 4 from rfl]; omega)
  unfold thP7
  unfold new7 at af ⊢
  simp?! only [af]
theorem th_p9 (hF : F.length ≤ 1000) : thP9 [some (.od kv), o1, o2, some (.sh (rd r)), some (.sh (lotD l)), some (.sh (newsD w)), some (.sh (pd p)), some (.ol F), a, b, c, none] = .ok .nx [some (.od kv), o1, o2, some (.sh (rd r)), some (.sh (lotD l)), some (.sh (newsD w)), some (.sh (pd p)), some (.ol (F ++ new9)), a, b, c, none] := by
  have z := sizeLine_eq
  have af : aAdd (.list F) (.list new9) = some (.ol (F ++ new9)) := aAdd_ll (by rw [show new9.length = 6 from rfl]; omega)
  unfold thP9
  unfold new9 at af ⊢
  simp?! only [af]
def new8 (w : List Told) (t : Told) : List PyData := [.tuple (w.map td ++ [.tuple [.str t.1, .int t.2.1, .int (t.2.2 + 1)]]), .tuple [.tuple [.str "ash", .int (-1), .int 0]], .tuple [.tuple [.str "ash", .int 0, .bool true]]]
theorem th_p8 {w0 : List Told} {t : Told} (ew : w = w0 ++ [t]) (hw : w.length ≤ 5) (hF : F.length ≤ 1000) : thP8 [some (.od kv), o1, o2, some (.sh (rd r)), some (.sh (lotD l)), some (.sh (newsD w)), some (.sh (pd p)), some (.ol F), a, b, c, none] = .ok .nx [some (.od kv), o1, o2, some (.sh (rd r)), some (.sh (lotD l)), some (.sh (newsD w)), some (.sh (pd p)), some (.ol (F ++ new8 w t)), a, b, c, none] := by
  have z := sizeLine_eq
  have gl : gIx (newsD w) (.int (-1)) = some (td t) := by
    unfold newsD
    rw [ew, List.map_append]
    exact gIx_end _ _
  have g0 : gIx (td t) (.int 0) = some (.str t.1) := rfl
  have g1 : gIx (td t) (.int 1) = some (.int t.2.1) := rfl
  have g2 : gIx (td t) (.int 2) = some (.int t.2.2) := rfl
  have a1 : aAdd (newsD w) (.tuple [.tuple [.str t.1, .int t.2.1, .int (t.2.2 + 1)]]) = some (.sh (.tuple (w.map td ++ [.tuple [.str t.1, .int t.2.1, .int (t.2.2 + 1)]]))) := aAdd_tt (by rw [List.length_map, List.length_singleton]; omega)
  have af : aAdd (.list F) (.list (new8 w t)) = some (.ol (F ++ new8 w t)) := aAdd_ll (by rw [show (new8 w t).length = 3 from rfl]; omega)
  unfold thP8
  unfold new8 at af ⊢
  simp?! only [gl, g0, g1, g2, a1, af]
theorem new8_ok {ts : List Str} {t : Told} (hw : NewsT ts w) (ht : t ∈ w) : ∀ d ∈ new8 w t, TT d := by
  have hn := news_ths hw
  have a := five_town t.1 (hw.2.mem (by rw [← hw.1.1]; exact List.mem_map_of_mem ht))
  have b := hw.1.2 t ht
  have h1 : Th 60 80 1 (.tuple [.str t.1, .int t.2.1, .int (t.2.2 + 1)]) := (Ths.cons a.th (Ths.cons (Th.int (m := 60) (n := 11) (by omega) (by decide) (by decide)) (Ths.cons (Th.int (m := 60) (n := 6) (by omega) (by decide) (by decide)) nil60))).tup.mono (by decide) (by decide)
  intro d hd
  simp only [new8, List.mem_cons, List.not_mem_nil, or_false] at hd
  rcases hd with rfl | rfl | rfl
  · exact TT.of (hn.append (Ths.cons h1 nil60)).tup (by decide) (by decide) (by decide)
  · exact Th.ofB (by decide +kernel) (by decide)
  · exact Th.ofB (by decide +kernel) (by decide)
end
end Lw
set_option exponentiation.threshold 10000
namespace Lw
open PySem L2 PySem.W PySem.SeqAt Eg
/-! ## the things -/
theorem things_ok {kvs : List (Key × PyData)} {n : Nat} {ts : List Str} {p : Hand × Hand} {ps : List (Hand × Hand)} (ht : TapAt kvs n) (hn : n < 50000) (hs : List.Sublist ts five) (h1 : 1 ≤ ts.length) (hp : ∀ x ∈ p :: ps, PairT x) (hl : (p :: ps).length ≤ 100) :
    ∃ r l w F kvs', RowT r ∧ LotT l ∧ NewsT ts w ∧ Fnd r l w p F 56 ∧ TapAt kvs' (n + 5000) ∧
      fn_things [some (.od kvs), some (.sh (.list (ts.map .str))), some (.sh (.list ((p :: ps).map pd)))] = .ok (.ol F) [some (.od kvs'), none, none] := by
  have z := sizeLine_eq
  have hpT := hp p List.mem_cons_self
  have h5 : ts.length ≤ 5 := hs.length_le
  have hT : ∀ x ∈ ts, TownT x := fun x hx => five_town x (hs.mem hx)
  obtain ⟨r, kv1, _, hr, t1, e1⟩ := row_newT ht (by omega) h1 (by omega) hpT hT
  obtain ⟨l, kv2, hlT, t2, e2⟩ := lot_newT t1 (by omega) h1 (by omega) hp hl hT
  obtain ⟨w, kv3, hw, _, t3, e3⟩ := news_ok t2 (by omega) h5
  have hN : NewsT ts w := ⟨hw, hs⟩
  have g0 : gIx (.list ((p :: ps).map pd)) (.int 0) = some (pd p) := gIx_lst (ds := (p :: ps).map pd) (j := 0) (by simp)
  have w0 : w ≠ [] := fun e => by
    have := hw.len
    rw [e] at this
    simp only [List.length_nil] at this
    omega
  have ew := (List.dropLast_concat_getLast w0).symm
  have q0 : thP0 [some (.od kvs), some (.sh (.list (ts.map .str))), some (.sh (.list ((p :: ps).map pd))), none, none, none, none, none, none, none, none, none] = .ok .nx [some (.od kv3), some (.sh (.list (ts.map .str))), some (.sh (.list ((p :: ps).map pd))), some (.sh (rd r)), some (.sh (lotD l)), some (.sh (newsD w)), some (.sh (pd p)), none, none, none, none, none] := by
    unfold thP0
    generalize (p :: ps).map pd = PP at g0 e2
    simp?! only [g0, e1, e2, e3]
  have q1 := th_p1 (kv := kv3) (o1 := some (.sh (.list (ts.map .str)))) (o2 := some (.sh (.list ((p :: ps).map pd)))) (a := none) (b := none) (c := none) (r := r) (l := l) (w := w) (p := p)
  have f1 : Fnd r l w p (six r l w p ++ news1 p) 4 := ⟨_, rfl, news1_th hpT, Nat.le_refl _⟩
  have q2 := th_p2 (kv := kv3) (o1 := some (.sh (.list (ts.map .str)))) (o2 := some (.sh (.list ((p :: ps).map pd)))) (a := none) (b := none) (c := none) (r := r) (l := l) (w := w) (p := p) (F := six r l w p ++ news1 p) (news_len hN) (by have := f1.len; omega)
  have f2 := f1.add (m := 10) (news2_th hr hN) (Nat.le_refl _)
  obtain ⟨F3, a3, b3, f3, q3⟩ := th_p3 (kv := kv3) (o1 := some (.sh (.list (ts.map .str)))) (o2 := some (.sh (.list ((p :: ps).map pd)))) (a := none) (b := none) (c := none) hr hpT f2 (by omega)
  obtain ⟨F4, a4, b4, f4, q4⟩ := th_p4 (kv := kv3) (o1 := some (.sh (.list (ts.map .str)))) (o2 := some (.sh (.list ((p :: ps).map pd)))) (a := a3) (b := b3) (c := none) hr f3 (by omega)
  obtain ⟨F5, c5, f5, q5⟩ := th_p5 (kv := kv3) (o1 := some (.sh (.list (ts.map .str)))) (o2 := some (.sh (.list ((p :: ps).map pd)))) (a := a4) (b := b4) (c := none) hr hlT f4 (by omega)
  have q6 := th_p6 (kv := kv3) (o1 := some (.sh (.list (ts.map .str)))) (o2 := some (.sh (.list ((p :: ps).map pd)))) (a := a4) (b := b4) (c := c5) (r := r) (l := l) (w := w) (p := p) (F := F5) (by have := f5.len; omega)
  have f6 := f5.add (m := 37) (new6_ok hlT) (Nat.le_refl _)
  have q7 := th_p7 (kv := kv3) (o1 := some (.sh (.list (ts.map .str)))) (o2 := some (.sh (.list ((p :: ps).map pd)))) (a := a4) (b := b4) (c := c5) (r := r) (l := l) (w := w) (p := p) (F := F5 ++ new6 l) (by have := f6.len; omega)
  have f7 := f6.add (m := 41) (fun d hd => new79_ok d (List.mem_append_left _ hd)) (Nat.le_refl _)
  have q8 := th_p8 (kv := kv3) (o1 := some (.sh (.list (ts.map .str)))) (o2 := some (.sh (.list ((p :: ps).map pd)))) (a := a4) (b := b4) (c := c5) (r := r) (l := l) (w := w) (p := p) (F := F5 ++ new6 l ++ new7) ew (news_len hN) (by have := f7.len; omega)
  have f8 := f7.add (m := 44) (new8_ok hN (t := w.getLast w0) (List.getLast_mem w0)) (Nat.le_refl _)
  have q9 := th_p9 (kv := kv3) (o1 := some (.sh (.list (ts.map .str)))) (o2 := some (.sh (.list ((p :: ps).map pd)))) (a := a4) (b := b4) (c := c5) (r := r) (l := l) (w := w) (p := p) (F := F5 ++ new6 l ++ new7 ++ new8 w (w.getLast w0)) (by have := f8.len; omega)
  have f9 := f8.add (m := 50) (fun d hd => new79_ok d (List.mem_append_right _ hd)) (Nat.le_refl _)
  obtain ⟨F, a10, b10, f10, q10⟩ := th_p10 (kv := kv3) (o1 := some (.sh (.list (ts.map .str)))) (o2 := some (.sh (.list ((p :: ps).map pd)))) (a := a4) (b := b4) (c := c5) hr f9 (by omega)
  refine ⟨r, l, w, F, kv3, hr, hlT, hN, f10, t3.mono (by omega), ?_⟩
  unfold fn_things
  rw [things_eq]
  generalize (p :: ps).map pd = PP at *
  simp?! only [q0, q1, q2, q3, q4, q5, q6, q7, q8, q9, q10]
/-! ## the great ones -/
def W (k : Nat) : Str := (⟨#[97 + k / 20]⟩ : Str) ++ ⟨#[97 + k % 20]⟩
def letters : Str := "abcdefghijklmnopqrst"
def ws : List Str := (List.range 60).map W
theorem letter_at {i : Int} {j : Nat} (hi : i = (j : Int)) (hj : j < 20) : gIx (.str letters) (.int i) = some (.str ⟨#[97 + j]⟩) := by
  subst hi
  have e : letters.cps.toList = (List.range 20).map (97 + ·) := by decide +kernel
  show (if letters.length ≤ sizeLine then (L2.atI letters.cps.toList (j : Int)).map fun c => PyData.str ⟨#[c]⟩ else none) = _
  rw [if_pos (by decide +kernel), e]
  unfold L2.atI ixN
  rw [if_pos (by omega), if_pos (by rw [List.length_map, List.length_range]; omega)]
  simp [hj]
theorem ws_two : ∀ x ∈ ws, x.length = 2 := by decide +kernel
theorem ws_sorted : (ws.map PyData.str).Pairwise fun a b => dataLe false id a b = true := by decide +kernel
theorem ws_sort : gSorted [.list (ws.map .str)] = some (.ol (ws.map .str)) := by
  have z := sizeLine_eq
  have ok : sortOk (ws.map PyData.str) = true := by
    simp only [sortOk, alikeB, Bool.and_eq_true, Bool.or_eq_true, List.all_eq_true, decide_eq_true_eq, List.mem_map, forall_exists_index, and_imp, forall_apply_eq_imp_iff₂, List.length_map]
    exact ⟨⟨⟨fun a _ b _ => by simp [alike], .inr fun a _ => rfl⟩, fun a _ => by simp [small, PyData.depth]⟩, by rw [show ws.length = 60 from rfl]; omega⟩
  simp only [gSorted]
  rw [if_pos ok]
  unfold sortD
  rw [List.mergeSort_of_pairwise ws_sorted]
def gRow (p : Str × Nat) : PyData := .tuple [.tuple [.tuple [.str "a", .str "a"], .tuple [.str "a", .str ("b" ++ p.1)]], .tuple [.int (p.2 : Int), .int 0], .str p.1, .str "a", .int 0, .int 9, .bool true]
def gNew (p : Str × Nat) : PyData := .tuple [.str p.1, .int (p.2 : Int), .int (10 ^ (30 : Int).toNat)]
theorem gRow_th : ∀ p ∈ ws.zipIdx, thB 60 400 3 (gRow p) = true ∧ thB 60 400 3 (gNew p) = true ∧ p.1.length = 2 := by decide +kernel
theorem great_ok : ∃ G : List PyData, G.length = 4 ∧ (∀ d ∈ G, TT d) ∧ fn_great [] = .ok (.ol G) [] := by
  have z := sizeLine_eq
  have p30 : gPow (.int 10) (.int 30) = some (.int (10 ^ (30 : Int).toNat)) := gPow_int (by decide)
  have hr : rng1 [.int 60] = some ((List.range 60).map fun k : Nat => PyData.int (0 + (k : Int))) := by
    simp only [rng1]
    rw [if_pos (by decide)]
    rfl
  have c1 : mComp (mL rng1 (mCons ((M.ret (.int 60)).bind fun d => M.ret (.dat d)) (mNil))) (tName 4) (M.ret true) m_great_e1 [4] [some (.sh (.str letters)), none, none, none, none, none] = .ok (.ol (ws.map .str)) [some (.sh (.str letters)), none, none, none, none, none] := by
    have e : ws.map PyData.str = (List.range 60).map fun k => PyData.str (W k) := by unfold ws; rw [List.map_map]; rfl
    rw [e]
    refine comp_pure (f := fun k : Nat => PyData.int (0 + (k : Int))) (fun k => .str (W k)) (by simp?! only [hr]) (by rw [List.length_range]; omega) fun k hk => ⟨[some (.sh (.str letters)), none, none, none, some (.sh (.int (0 + (k : Int)))), none], [some (.sh (.str letters)), none, none, none, some (.sh (.int (0 + (k : Int)))), none], rfl, ?_, rfl⟩
    have hk := List.mem_range.mp hk
    have f1 : gFloorW (.int (0 + (k : Int))) (.int 20) = some (.int ((0 + (k : Int)) / 20)) := gFloorW_int (b := 10) (by decide) (by decide)
    have f2 : gMod (.int (0 + (k : Int))) (.int 20) = some (.int ((0 + (k : Int)) % 20)) := gMod_int (by decide)
    have g1 := letter_at (i := (0 + (k : Int)) / 20) (j := k / 20) (by omega) (by omega)
    have g2 := letter_at (i := (0 + (k : Int)) % 20) (j := k % 20) (by omega) (by omega)
    have a1 : aAdd (.str ⟨#[97 + k / 20]⟩) (.str ⟨#[97 + k % 20]⟩) = some (.sh (.str (W k))) := by
      simp only [aAdd]
      rw [if_pos (by show 1 + 1 ≤ sizeLine; omega)]
      rfl
    unfold m_great_e1
    simp?! only [f1, f2, g1, g2, a1]
  have en : enumD [.list (ws.map .str)] = some (ws.zipIdx.map fun p => .tuple [.int (p.2 : Int), .str p.1]) := by
    show some _ = _
    rw [List.zipIdx_map, List.map_map]
    rfl
  have lz : ws.zipIdx.length = 60 := by rw [List.length_zipIdx]; rfl
  have c2 : ∀ o3 : Option OD, mComp ((mName 1).bind fun d => M.lift (enumD [d])) (tTup [tName 4, tName 5]) (M.ret true) m_great_e2 [4, 5] [some (.sh (.str letters)), some (.ol (ws.map .str)), none, o3, none, none] = .ok (.ol (ws.zipIdx.map gRow)) [some (.sh (.str letters)), some (.sh (.list (ws.map .str))), none, o3, none, none] := fun o3 => by
    refine comp_pure (f := fun p : Str × Nat => .tuple [.int (p.2 : Int), .str p.1]) gRow (by simp?! only [en]) (by omega) fun p hp => ⟨[some (.sh (.str letters)), some (.sh (.list (ws.map .str))), none, o3, some (.sh (.int (p.2 : Int))), some (.sh (.str p.1))], [some (.sh (.str letters)), some (.sh (.list (ws.map .str))), none, o3, some (.sh (.int (p.2 : Int))), some (.sh (.str p.1))], rfl, ?_, rfl⟩
    have a1 : aAdd (.str "b") (.str p.1) = some (.sh (.str ("b" ++ p.1))) := by
      simp only [aAdd]
      rw [if_pos (by have := (gRow_th p hp).2.2; have h2 : ("b" : Str).length = 1 := by decide +kernel
                     omega)]
    unfold m_great_e2 gRow
    simp?! only [a1]
  have c3 : ∀ o2 : Option OD, mComp ((mName 1).bind fun d => M.lift (enumD [d])) (tTup [tName 4, tName 5]) (M.ret true) m_great_e3 [4, 5] [some (.sh (.str letters)), some (.sh (.list (ws.map .str))), o2, none, none, none] = .ok (.ol (ws.zipIdx.map gNew)) [some (.sh (.str letters)), some (.sh (.list (ws.map .str))), o2, none, none, none] := fun o2 => by
    refine comp_pure (f := fun p : Str × Nat => .tuple [.int (p.2 : Int), .str p.1]) gNew (by simp?! only [en]) (by omega) fun p hp => ⟨[some (.sh (.str letters)), some (.sh (.list (ws.map .str))), o2, none, some (.sh (.int (p.2 : Int))), some (.sh (.str p.1))], [some (.sh (.str letters)), some (.sh (.list (ws.map .str))), o2, none, some (.sh (.int (p.2 : Int))), some (.sh (.str p.1))], rfl, ?_, rfl⟩
    unfold m_great_e3 gNew
    simp?! only [p30]
  have tr : Ths 60 24120 3 (ws.zipIdx.map gRow) := (Ths.all (q := 60) (n := 400) (k := 3) (fun d hd => by
    obtain ⟨t, ht, rfl⟩ := List.mem_map.mp hd
    exact Th.ofB (gRow_th t ht).1 (by decide)) (by decide)).mono (by rw [List.length_map, lz]; decide) (Nat.le_refl _)
  have tn : Ths 60 24120 3 (ws.zipIdx.map gNew) := (Ths.all (q := 60) (n := 400) (k := 3) (fun d hd => by
    obtain ⟨t, ht, rfl⟩ := List.mem_map.mp hd
    exact Th.ofB (gRow_th t ht).2.1 (by decide)) (by decide)).mono (by rw [List.length_map, lz]; decide) (Nat.le_refl _)
  have lr : (ws.zipIdx.map gRow).length = 60 := by rw [List.length_map, lz]
  have ln : (ws.zipIdx.map gNew).length = 60 := by rw [List.length_map, lz]
  have let0 : (Str.ofString "abcdefghijklmnopqrst") = letters := rfl
  generalize ws.zipIdx.map gRow = R at *
  generalize ws.zipIdx.map gNew = N at *
  have sw := ws_sort
  generalize ws.map PyData.str = S at *
  have half : ∀ L : List PyData, L.length = 60 → Ths 60 24120 3 L → ∃ M, Ths 60 48240 3 M ∧ ∃ A B, gSl (.tuple L) none (some (-2)) = some (.sh (.tuple A)) ∧ gRevTo 2 (.tuple L) = some (.sh (.tuple B)) ∧ aAdd (.tuple A) (.tuple B) = some (.sh (.tuple M)) := by
    intro L hL tL
    have lA := (cut_sub L none (some (-2))).length_le
    refine ⟨cutD L none (some (-2)) ++ L.reverse.take 2, (tL.sub (cut_sub _ _ _)).append (tL.rev.sub (List.take_sublist _ _)), cutD L none (some (-2)), L.reverse.take 2, rfl, ?_, aAdd_tt ?_⟩
    · simp only [gRevTo]
      rw [if_pos (by omega)]
    · rw [List.length_take, List.length_reverse]
      omega
  obtain ⟨R2, tR2, A1, B1, sA1, rB1, aA1⟩ := half R lr tr
  obtain ⟨N2, tN2, A2, B2, sA2, rB2, aA2⟩ := half N ln tn
  refine ⟨[.tuple [.int 0, .int 0, .tuple R], .tuple [.int 0, .int 0, .tuple R2], .tuple N, .tuple N2], rfl, fun d hd => ?_, ?_⟩
  · have z1 : Th 60 3 4 (.int 0) := Th.ofB (by decide +kernel) (by decide)
    simp only [List.mem_cons, List.not_mem_nil, or_false] at hd
    rcases hd with rfl | rfl | rfl | rfl
    · exact TT.of (Ths.cons z1 (Ths.cons z1 (Ths.cons tr.tup nil60))).tup (by decide) (by decide) (by decide)
    · exact TT.of (Ths.cons z1 (Ths.cons z1 (Ths.cons tR2.tup nil60))).tup (by decide) (by decide) (by decide)
    · exact TT.of tn.tup (by decide) (by decide) (by decide)
    · exact TT.of tN2.tup (by decide) (by decide) (by decide)
  · unfold fn_great m_great
    simp?! only [let0, c1, c2, c3, sw, gTuple_l, v_ai2, sA1, rB1, aA1, sA2, rB2, aA2]
end Lw
set_option exponentiation.threshold 10000
namespace Lw
open PySem L2 PySem.W PySem.SeqAt Eg
def BB (d : PyData) : Prop := Th 62 200000 10 d
theorem six_ok {r : Row} {l : Lot} {w : List Told} {p : Hand × Hand} {ts : List Str} (hr : RowT r) (hl : LotT l) (hw : NewsT ts w) (hp : PairT p) : ∀ d ∈ six r l w p, Th 60 33530 5 d ∧ sOk 10 d = true := by
  intro d hd
  simp only [six, List.mem_cons, List.not_mem_nil, or_false] at hd
  rcases hd with rfl | rfl | rfl | rfl | rfl | rfl
  · exact ⟨(rd_th hr).mono (by decide) (by decide), rd_s hr⟩
  · exact ⟨lotD_th hl, lotD_s hl⟩
  · exact ⟨(news_ths hw).tup.mono (by decide) (by decide), newsD_s hw⟩
  · exact ⟨(pd_th hp).mono (by decide) (by decide), pd_s hp⟩
  · exact ⟨(hd_th hp.2.1 hp.2.2).mono (by decide) (by decide), hd_s hp.2.1 hp.2.2⟩
  · exact ⟨(Ths.cons (hd_th hp.2.1 hp.2.2) (Ths.cons (hd_th hp.1.1 hp.1.2) nil60)).tup.mono (by decide) (by decide), sT fun d hd => by
      simp only [List.mem_cons, List.not_mem_nil, or_false] at hd
      rcases hd with rfl | rfl
      · exact hd_s hp.2.1 hp.2.2
      · exact hd_s hp.1.1 hp.1.2⟩
/-- one look at one thing -/
theorem look_ok {o0 o1 o2 o3 o4 o5 o6 o8 o9 o10 : Option OD} {d : PyData} (h : BB d) : ∃ a8 a9 a10, m_law_k01_b2 [o0, o1, o2, o3, o4, o5, o6, some (.sh d), o8, o9, o10] = .ok .nx [o0, o1, o2, o3, o4, o5, o6, some (.sh d), a8, a9, a10] := by
  have z := sizeLine_eq
  have rp := h.fd.repr (by decide) (by decide)
  have w1 := own_word_any h (by decide)
  have w2 := own_hand_any h (by decide)
  have w3 := own_pair_any h (by decide)
  have w4 := own_row_any h (by decide)
  have w5 := is_lot_any h (by decide) (by decide)
  have w6 := is_news_any h (by decide) (by decide)
  have v1 := is_word_any h (by decide)
  have v2 := is_hand_any h (by decide)
  have v3 := is_pair_any h (by decide)
  have v4 := is_row_any h (by decide)
  have v5 := is_rights_any h (by decide)
  have v6 := is_heard_any h (by decide)
  generalize isWord d = b1 at *
  generalize isHand d = b2 at *
  generalize isPair d = b3 at *
  generalize isRow d = b4 at *
  generalize isRights d = b5 at *
  generalize isHeard d = b6 at *
  have tb : ∀ b : Bool, Th 60 5 0 (.bool b) := fun b => Th.bool b (by decide)
  have rb := (Ths.cons (tb b1) (Ths.cons (tb b2) (Ths.cons (tb b3) (Ths.cons (tb b4) (Ths.cons (tb b5) (Ths.cons (tb b6) nil60)))))).lst.fd.repr (by decide) (by decide)
  have ad : aAdd (.list [.bool b1, .bool b2, .bool b3, .bool b4, .bool b5]) (.list [.bool b6]) = some (.ol [.bool b1, .bool b2, .bool b3, .bool b4, .bool b5, .bool b6]) := aAdd_ll (xs := [.bool b1, .bool b2, .bool b3, .bool b4, .bool b5]) (ys := [.bool b6]) (show 6 ≤ sizeLine by decide)
  refine ⟨some (.sh (.str d.shown)), some (.ol [.bool b1, .bool b2, .bool b3, .bool b4, .bool b5]), some (.ol [.bool b1, .bool b2, .bool b3, .bool b4, .bool b5]), ?_⟩
  unfold m_law_k01_b2
  simp?! only [rp, w1, w2, w3, w4, w5, w6, v1, v2, v3, v4, v5, v6, rb, ad]
theorem bends_ok {o0 o2 o3 o5 o6 : Option OD} {kvs : List (Key × PyData)} {n : Nat} {L six more : List PyData} (ht : TapAt kvs n) (hn : n < 50000) (h6 : six.length = 6) (hs : ∀ d ∈ six, Th 60 33530 5 d ∧ sOk 10 d = true) (hL : L = six ++ more) (hB : ∀ d ∈ L, BB d) (hl : L.length ≤ 200) :
    ∃ kvs' a6 x y z, TapAt kvs' (n + 100) ∧ BB x ∧ BB y ∧ BB z ∧
      m_law_k01_b1 [o0, some (.od kvs), o2, o3, some (.ol L), o5, o6, none, none, none, none] = .ok .nx [o0, some (.od kvs'), o2, o3, some (.ol (L ++ [x, y, z])), o5, a6, none, none, none, none] := by
  have zz := sizeLine_eq
  obtain ⟨v, kv1, v0, v1, t1, e1⟩ := take_at (many := 6) ht (by omega) (by decide) (by decide)
  have hv : v.toNat < six.length := by omega
  have g : gIx (.list L) (.int v) = some (six[v.toNat]) := by
    show L2.atI L v = _
    unfold L2.atI ixN
    rw [if_pos v0, if_pos (by rw [hL, List.length_append]; omega), hL]
    simp [List.getElem?_append_left hv]
  have hd := hs _ (List.getElem_mem hv)
  generalize six[v.toNat] = d at g hd
  obtain ⟨x, kv2, tx, sx, t2, e2⟩ := bend_ok 7 (deep := 5) (q := 60) (w := 33530) (k := 5) (s := 10) (by decide) (by decide) t1 (by omega) hd.1 hd.2 (by decide) (by decide) (by decide) (by decide) (by decide) (by decide)
  obtain ⟨y, kv3, ty, _, t3, e3⟩ := bend_ok 7 (deep := 5) (q := 61) (w := 68560) (k := 7) (s := 82) (by decide) (by decide) t2 (by omega) (tx.mono (by decide) (by decide)) sx (by decide) (by decide) (by decide) (by decide) (by decide) (by decide)
  obtain ⟨z, kv4, tz, _, t4, e4⟩ := odd_ok (q := 62) t3 (by omega) (by decide) (by decide)
  refine ⟨kv4, some (.sh x), x, y, z, t4.mono (by omega), tx.mono (by decide) (by decide) (by decide) (by decide), ty.mono (by decide) (by decide) (by decide) (by decide), tz.mono (by decide) (by decide) (by decide) (by decide), ?_⟩
  have af : aAdd (.list L) (.list [x, y, z]) = some (.ol (L ++ [x, y, z])) := aAdd_ll (by rw [show ([x, y, z] : List PyData).length = 3 from rfl]; omega)
  unfold m_law_k01_b1
  simp?! only [e1, g, e2, e3, e4, af]
theorem law_k01_true (ns : List Int) (h : ns.length ≤ 63) : ∃ ρ, fnM 10 [false] m_law_k01 [some (.sc ns)] = .ok (.sh (.bool true)) ρ := by
  have zz := sizeLine_eq
  obtain ⟨kv0, t0, e0⟩ := tap_new ns
  obtain ⟨ts, kv1, hs, h1, t1, e1⟩ := towns_ok (least := 2) t0 (by decide) (by decide)
  have h1 := h1 (by decide)
  obtain ⟨found, rest, kv2, hp, hl, t2, e2⟩ := seats_two (many := 4) t1 (by decide) hs.length_le h1 (by decide)
  have sub5 : ∀ x ∈ found, x ∈ allOf five := fun x hx => (allOf_sub hs).mem (hp.mem_iff.mp (List.mem_append_left _ hx))
  have nd : found.Nodup := (List.sublist_append_left found rest).nodup (hp.nodup_iff.mpr ((allOf_sub hs).nodup nodup5))
  have l20 : found.length ≤ 20 := by have := hl.2; have e : (4 : Int).toNat = 4 := rfl; omega
  have e3 := twos_ok l20 nd
  have sl : (sortH found).length = found.length := (sortH_perm found).length_eq
  have pr : ∀ x ∈ rise (sortH found), PairT x := fun x hx => by
    obtain ⟨a, b⟩ := rise_two hx
    exact ⟨all_town (sub5 _ ((sortH_perm found).mem_iff.mp a)), all_town (sub5 _ ((sortH_perm found).mem_iff.mp b))⟩
  have pl : (rise (sortH found)).length ≤ 100 := by
    have a := rise_lenT (sortH found)
    have c : (sortH found).length ≤ 4 := by have := hl.2; have e : (4 : Int).toNat = 4 := rfl; omega
    have := Nat.mul_le_mul c c
    omega
  have pn : rise (sortH found) ≠ [] := rise_ne (by omega)
  cases hps : rise (sortH found) with
  | nil => exact absurd hps pn
  | cons p ps =>
    rw [hps] at pr pl e3
    obtain ⟨r, l, w, F, kv3, hr, hlT, hN, hF, t3, e4⟩ := things_ok t2 (by decide) hs h1 pr pl
    obtain ⟨G, hG, hGT, e5⟩ := great_ok
    have hp0 := pr p List.mem_cons_self
    have s6 := six_ok hr hlT hN hp0
    have l6 : (six r l w p).length = 6 := rfl
    have lF := hF.len
    obtain ⟨restF, eF, hrF, _⟩ := hF
    have ttb : ∀ d, TT d → BB d := fun d h => h.mono (by decide) (by decide) (by decide) (by decide)
    have bF : ∀ d ∈ F ++ G, BB d := fun d hd => by
      rcases List.mem_append.mp hd with hd | hd
      · rw [eF] at hd
        rcases List.mem_append.mp hd with hd | hd
        · exact (s6 d hd).1.mono (by decide) (by decide) (by decide) (by decide)
        · exact ttb d (hrF d hd)
      · exact ttb d (hGT d hd)
    have af : aAdd (.list F) (.list G) = some (.ol (F ++ G)) := aAdd_ll (by omega)
    have rg : rng1 [.int 12] = some ([(0 : Int), 1, 2, 3, 4, 5, 6, 7, 8, 9, 10, 11].map .int) := rfl
    generalize hP : (p :: ps).map pd = P at e3 e4
    obtain ⟨ρ', e6, ⟨_, kv4, L, a5, a6, t4, ⟨more, eL⟩, bL, lL, rfl⟩⟩ := loop_inv (f := PyData.int) (t := tName 5) (b := m_law_k01_b1) (fun rest ρ => rest.length ≤ 12 ∧ ∃ (kv4 : List (Key × PyData)) (L : List PyData) (a5 a6 : Option OD), TapAt kv4 (6400 - 100 * rest.length) ∧ (∃ more, L = six r l w p ++ more) ∧ (∀ d ∈ L, BB d) ∧ L.length ≤ 102 - 3 * rest.length ∧
        ρ = [some (.sc ns), some (.od kv4), some (.sh (.list (ts.map .str))), some (.sh (.list P)), some (.ol L), a5, a6, none, none, none, none]) (by
      rintro x rest ρ ⟨hrl, kv4, L, a5, a6, t4, ⟨more, eL⟩, bL, lL, rfl⟩
      rw [List.length_cons] at hrl t4 lL
      obtain ⟨kv5, b6, x1, y1, z1, t5, hx, hy, hz, e⟩ := bends_ok (o0 := some (.sc ns)) (o2 := some (.sh (.list (ts.map .str)))) (o3 := some (.sh (.list P))) (o5 := some (.sh (.int x))) (o6 := a6) t4 (by omega) l6 s6 eL bL (by omega)
      refine ⟨_, _, rfl, .inl e, by omega, kv5, L ++ [x1, y1, z1], some (.sh (.int x)), b6, t5.mono (by omega), ⟨more ++ [x1, y1, z1], by rw [eL, List.append_assoc]⟩, fun d hd => ?_, by rw [List.length_append]; simp only [List.length_cons, List.length_nil]; omega, rfl⟩
      rcases List.mem_append.mp hd with hd | hd
      · exact bL d hd
      · simp only [List.mem_cons, List.not_mem_nil, or_false] at hd
        rcases hd with rfl | rfl | rfl
        · exact hx
        · exact hy
        · exact hz) [0, 1, 2, 3, 4, 5, 6, 7, 8, 9, 10, 11] [some (.sc ns), some (.od kv3), some (.sh (.list (ts.map .str))), some (.sh (.list P)), some (.ol (F ++ G)), none, none, none, none, none, none]
      ⟨by decide, kv3, F ++ G, none, none, t3.mono (by decide), ⟨restF ++ G, by rw [eF, List.append_assoc]⟩, bF, by rw [List.length_append, hG]; simp only [List.length_cons, List.length_nil]; omega, rfl⟩
    obtain ⟨ρ2, e7, ⟨_, a7, a8, a9, a10, rfl⟩⟩ := loop_inv (f := id) (t := tName 7) (b := m_law_k01_b2) (fun rest ρ => (∀ d ∈ rest, BB d) ∧ ∃ a7 a8 a9 a10, ρ = [some (.sc ns), some (.od kv4), some (.sh (.list (ts.map .str))), some (.sh (.list P)), some (.sh (.list L)), a5, a6, a7, a8, a9, a10]) (by
      rintro x rest ρ ⟨hx, a7, a8, a9, a10, rfl⟩
      obtain ⟨b8, b9, b10, e⟩ := look_ok (o0 := some (.sc ns)) (o1 := some (.od kv4)) (o2 := some (.sh (.list (ts.map .str)))) (o3 := some (.sh (.list P))) (o4 := some (.sh (.list L))) (o5 := a5) (o6 := a6) (o8 := a8) (o9 := a9) (o10 := a10) (hx x List.mem_cons_self)
      exact ⟨_, _, rfl, .inl e, fun d hd => hx d (List.mem_cons_of_mem _ hd), _, _, _, _, rfl⟩) L [some (.sc ns), some (.od kv4), some (.sh (.list (ts.map .str))), some (.sh (.list P)), some (.sh (.list L)), a5, a6, none, none, none, none] ⟨bL, none, none, none, none, rfl⟩
    rw [List.map_id] at e7
    refine ⟨[none], ?_⟩
    unfold m_law_k01
    simp only [List.map_cons, List.map_nil] at e6 rg
    simp?! only [e0, e1, e2, e3, e4, e5, af, rg, e6, e7]
end Lw
open PySem PySem.W PyProof.Rows in
set_option maxRecDepth 100000 in
set_option maxHeartbeats 0 in
theorem PySem.Challenge.cw_strangerbench_k01_kinds_holds : PySem.Challenge.rw_strangerbench_k01_kinds.Holds := by
  w_on; o_law; k_head; (case hw => w_witness2)
  k_fill
  refine Eg.law_walk (l := PySem.Challenge.rw_strangerbench_k01_kinds) (n := 63) (k := 11) (m := 10) (x := "script") (body := Lw.m_law_k01) (XR := fun _ _ _ _ _ => False) rfl (by decide) rfl ⟨rfl, by decide, by decide⟩ (fun w h Y => PySem.W.kIn_of Y) ?F Lw.law_k01_true
  case F =>
    intro w mg fa h KX G hmg
    refine' Dv.all_in KX G hmg ?a_s0 ?l_s0 ?c_s0 ?k_s0 ?a_s1 ?l_s1 ?c_s1 ?k_s1 ?a_s2 ?l_s2 ?c_s2 ?k_s2 ?a_s3 ?l_s3 ?c_s3 ?k_s3 ?a_s4 ?l_s4 ?c_s4 ?k_s4 ?a_s5 ?l_s5 ?c_s5 ?k_s5 ?a_s6 ?l_s6 ?c_s6 ?k_s6 ?a_s7 ?l_s7 ?c_s7 ?k_s7 ?a_s8 ?l_s8 ?c_s8 ?k_s8 ?a_s9 ?l_s9 ?c_s9 ?k_s9 ?a_s10 ?l_s10 ?c_s10 ?k_s10 ?a_s11 ?l_s11 ?c_s11 ?k_s11 ?a_s12 ?l_s12 ?c_s12 ?k_s12 ?a_s13 ?l_s13 ?c_s13 ?k_s13 ?a_s14 ?l_s14 ?c_s14 ?k_s14 ?a_s15 ?l_s15 ?c_s15 ?k_s15 ?a_s16 ?l_s16 ?c_s16 ?k_s16 ?a_s17 ?l_s17 ?c_s17 ?k_s17 ?a_s18 ?l_s18 ?c_s18 ?k_s18 ?a_s19 ?l_s19 ?c_s19 ?k_s19 ?a_s20 ?l_s20 ?c_s20 ?k_s20 ?a_s21 ?l_s21 ?c_s21 ?k_s21 ?a_s22 ?l_s22 ?c_s22 ?k_s22 ?a_s23 ?l_s23 ?c_s23 ?k_s23 ?a_s24 ?l_s24 ?c_s24 ?k_s24 ?a_s25 ?l_s25 ?c_s25 ?k_s25 ?a_s26 ?l_s26 ?c_s26 ?k_s26 ?a_s27 ?l_s27 ?c_s27 ?k_s27 ?a_s28 ?l_s28 ?c_s28 ?k_s28 ?a_s29 ?l_s29 ?c_s29 ?k_s29 ?a_s30 ?l_s30 ?c_s30 ?k_s30 ?a_s31 ?l_s31 ?c_s31 ?k_s31 ?a_s32 ?l_s32 ?c_s32 ?k_s32 ?z_all ?z_bool ?z_enumerate ?z_int ?z_isinstance ?z_len ?z_list ?z_max ?z_min ?z_range ?z_repr ?z_sorted ?z_str ?z_tuple ?z_type ?z_zip
    case a_s0 => k_is
    case l_s0 => k_is
    case c_s0 => k_is
    case k_s0 => k_is
    case a_s1 => k_is
    case l_s1 => k_is
    case c_s1 => k_is
    case k_s1 => k_is
    case a_s2 => k_is
    case l_s2 => k_is
    case c_s2 => k_is
    case k_s2 => k_is
    case a_s3 => k_is
    case l_s3 => k_is
    case c_s3 => k_is
    case k_s3 => k_is
    case a_s4 => k_is
    case l_s4 => k_is
    case c_s4 => k_is
    case k_s4 => k_is
    case a_s5 => k_is
    case l_s5 => k_is
    case c_s5 => k_is
    case k_s5 => k_is
    case a_s6 => k_is
    case l_s6 => k_is
    case c_s6 => k_is
    case k_s6 => k_is
    case a_s7 => k_is
    case l_s7 => k_is
    case c_s7 => k_is
    case k_s7 => k_is
    case a_s8 => k_is
    case l_s8 => k_is
    case c_s8 => k_is
    case k_s8 => k_is
    case a_s9 => k_is
    case l_s9 => k_is
    case c_s9 => k_is
    case k_s9 => k_is
    case a_s10 => k_is
    case l_s10 => k_is
    case c_s10 => k_is
    case k_s10 => k_is
    case a_s11 => k_is
    case l_s11 => k_is
    case c_s11 => k_is
    case k_s11 => k_is
    case a_s12 => k_is
    case l_s12 => k_is
    case c_s12 => k_is
    case k_s12 => k_is
    case a_s13 => k_is
    case l_s13 => k_is
    case c_s13 => k_is
    case k_s13 => k_is
    case a_s14 => k_is
    case l_s14 => k_is
    case c_s14 => k_is
    case k_s14 => k_is
    case a_s15 => k_is
    case l_s15 => k_is
    case c_s15 => k_is
    case k_s15 => k_is
    case a_s16 => k_is
    case l_s16 => k_is
    case c_s16 => k_is
    case k_s16 => k_is
    case a_s17 => k_is
    case l_s17 => k_is
    case c_s17 => k_is
    case k_s17 => k_is
    case a_s18 => k_is
    case l_s18 => k_is
    case c_s18 => k_is
    case k_s18 => k_is
    case a_s19 => k_is
    case l_s19 => k_is
    case c_s19 => k_is
    case k_s19 => k_is
    case a_s20 => k_is
    case l_s20 => k_is
    case c_s20 => k_is
    case k_s20 => k_is
    case a_s21 => k_is
    case l_s21 => k_is
    case c_s21 => k_is
    case k_s21 => k_is
    case a_s22 => k_is
    case l_s22 => k_is
    case c_s22 => k_is
    case k_s22 => k_is
    case a_s23 => k_is
    case l_s23 => k_is
    case c_s23 => k_is
    case k_s23 => k_is
    case a_s24 => k_is
    case l_s24 => k_is
    case c_s24 => k_is
    case k_s24 => k_is
    case a_s25 => k_is
    case l_s25 => k_is
    case c_s25 => k_is
    case k_s25 => k_is
    case a_s26 => k_is
    case l_s26 => k_is
    case c_s26 => k_is
    case k_s26 => k_is
    case a_s27 => k_is
    case l_s27 => k_is
    case c_s27 => k_is
    case k_s27 => k_is
    case a_s28 => k_is
    case l_s28 => k_is
    case c_s28 => k_is
    case k_s28 => k_is
    case a_s29 => k_is
    case l_s29 => k_is
    case c_s29 => k_is
    case k_s29 => k_is
    case a_s30 => k_is
    case l_s30 => k_is
    case c_s30 => k_is
    case k_s30 => k_is
    case a_s31 => k_is
    case l_s31 => k_is
    case c_s31 => k_is
    case k_s31 => k_is
    case a_s32 => k_is
    case l_s32 => k_is
    case c_s32 => k_is
    case k_s32 => k_is
    case z_all => k_is
    case z_bool => k_is
    case z_enumerate => k_is
    case z_int => k_is
    case z_isinstance => k_is
    case z_len => k_is
    case z_list => k_is
    case z_max => k_is
    case z_min => k_is
    case z_range => k_is
    case z_repr => k_is
    case z_sorted => k_is
    case z_str => k_is
    case z_tuple => k_is
    case z_type => k_is
    case z_zip => k_is

