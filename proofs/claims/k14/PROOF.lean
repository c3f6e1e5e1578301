import PyProof.Rows.All
import Wide.All
import OpenK.AllK
import Wide.FinOn
import HandS.Text
import PyProof.Rows.IntBool
import PyProof.CallStr
import HandS.TupMul
import HandS.IsInst
import HandS.Gcd
import HandS.Struct
import HandS.Wide
import HandS.TryOnly
import HandS.More
import HandS.Zip
import HandS.Style
import HandS.TupLe
import HandS.ForMost
import HandS.ForExc
import HandS.TryMany
import KE.SortData
import KE.DataMinMax
import KE.KDictKeyed
import HandS.TupAny
import KE.DataEq
import KE.DataCmp
import PyProof.FitsInt
import HandS.DictComp
import KE.KDictList
import HandS.Conv
import HandS.Set
import HandS.TupLen
import HandS.TupSets
import KE.KDictPairs
import HandS.Defaults
import Open.Row
import PySem.Challenge.RW_strangerbench_k14_looks_over_towns
set_option Elab.async false
set_option linter.all false
set_option maxRecDepth 100000
set_option maxHeartbeats 4000000
namespace Eg
open PySem L2 PySem.W PySem.SeqAt PySem.Spec PyProof.Rows
/-! ## data as keys -/
mutual
/-- the key that a datum is -/
def nk : PyData → NestedKey
  | .none => .none
  | .bool b => .num (if b = true then 1 else 0)
  | .int i => .num i
  | .str x => .text x
  | .tuple ds => .tup (nks ds)
  | .list _ => .none
  | .dict _ => .none
def nks : List PyData → List NestedKey
  | [] => []
  | d :: ds => nk d :: nks ds
end
mutual
/-- numbers, texts, None and tuples of these: no truths, so that unlike ones are unlike keys -/
def keyB : PyData → Bool
  | .none => true
  | .int _ => true
  | .str _ => true
  | .tuple ds => keyBs ds
  | .bool _ => false
  | .list _ => false
  | .dict _ => false
def keyBs : List PyData → Bool
  | [] => true
  | d :: ds => keyB d && keyBs ds
end
theorem nks_len : ∀ ds : List PyData, (nks ds).length = ds.length
  | [] => rfl
  | d :: ds => by rw [nks, List.length_cons, List.length_cons, nks_len ds]
theorem nks_map : ∀ ds : List PyData, nks ds = ds.map nk
  | [] => rfl
  | d :: ds => by rw [nks, List.map_cons, nks_map ds]
theorem keyBs_all : ∀ {ds : List PyData}, keyBs ds = true ↔ ∀ d ∈ ds, keyB d = true
  | [] => by simp [keyBs]
  | d :: ds => by rw [keyBs, Bool.and_eq_true, keyBs_all]; simp
mutual
theorem nk_inj : ∀ d e : PyData, keyB d = true → keyB e = true → nk d = nk e → d = e
  | .none, e, _, he, h => by cases e <;> simp [nk, keyB] at he h ⊢
  | .int i, e, _, he, h => by cases e <;> simp [nk, keyB] at he h ⊢; exact h
  | .str x, e, _, he, h => by cases e <;> simp [nk, keyB] at he h ⊢; exact h
  | .tuple ds, e, hd, he, h => by
    cases e <;> simp [nk, keyB] at hd he h ⊢
    exact nks_inj ds _ hd he h
  | .bool b, _, hd, _, _ => by simp [keyB] at hd
  | .list ds, _, hd, _, _ => by simp [keyB] at hd
  | .dict ds, _, hd, _, _ => by simp [keyB] at hd
theorem nks_inj : ∀ ds es : List PyData, keyBs ds = true → keyBs es = true → nks ds = nks es → ds = es
  | [], es, _, _, h => by cases es <;> simp [nks] at h ⊢
  | d :: ds, es, hd, he, h => by
    cases es with
    | nil => simp [nks] at h
    | cons e es =>
      rw [keyBs, Bool.and_eq_true] at hd he
      rw [nks, nks] at h
      injection h with h1 h2
      rw [nk_inj d e hd.1 he.1 h1, nks_inj ds es hd.2 he.2 h2]
end
mutual
theorem nk_depth : ∀ d : PyData, keyB d = true → (nk d).depth ≤ d.depth
  | .none, _ => by rw [nk, NestedKey.depth]; exact Nat.zero_le _
  | .int i, _ => by rw [nk, NestedKey.depth]; exact Nat.zero_le _
  | .str x, _ => by rw [nk, NestedKey.depth]; exact Nat.zero_le _
  | .tuple ds, h => by
    rw [keyB] at h
    rw [nk, NestedKey.depth, PyData.depth]
    have := nks_depth ds h
    omega
  | .bool b, hd => by simp [keyB] at hd
  | .list ds, hd => by simp [keyB] at hd
  | .dict ds, hd => by simp [keyB] at hd
theorem nks_depth : ∀ ds : List PyData, keyBs ds = true → NestedKey.depthAll (nks ds) ≤ PyData.depthAll ds
  | [], _ => by rw [nks, NestedKey.depthAll]; exact Nat.zero_le _
  | d :: ds, h => by
    rw [keyBs, Bool.and_eq_true] at h
    rw [nks, NestedKey.depthAll, PyData.depthAll]
    have h1 := nk_depth d h.1
    have h2 := nks_depth ds h.2
    omega
end
mutual
/-- what reads as such a datum is its key -/
theorem nk_reads {h : Heap} : ∀ (d : PyData) (v : Value) (as : List Addr), Reads h v d as → keyB d = true → NestedIs h (nk d) v
  | .none, v, as, r, _ => by cases r; rw [nk]; exact .none
  | .int i, v, as, r, _ => by cases r; rw [nk]; exact .int _ _
  | .str x, v, as, r, _ => by cases r; rw [nk]; exact .text _ _
  | .tuple ds, v, as, r, k => by
    rw [keyB] at k
    cases r with
    | tuple h1 h2 h3 h4 => rw [nk]; exact .tup h1 h2 h3 (nks_reads ds _ _ h4 k)
  | .bool b, _, _, _, hd => by simp [keyB] at hd
  | .list ds, _, _, _, hd => by simp [keyB] at hd
  | .dict ds, _, _, _, hd => by simp [keyB] at hd
theorem nks_reads {h : Heap} : ∀ (ds : List PyData) (vs : List Value) (as : List Addr), ReadsAll h vs ds as → keyBs ds = true → NestedAll h (nks ds) vs
  | [], vs, as, r, _ => by cases r; rw [nks]; exact .nil
  | d :: ds, vs, as, r, k => by
    rw [keyBs, Bool.and_eq_true] at k
    cases r with
    | cons h1 h2 => rw [nks]; exact .cons (nk_reads d _ _ h1 k.1) (nks_reads ds _ _ h2 k.2)
end
/-- a tuple that reads so is a key of the kind -/
theorem nk_is {P : Program} {w : World} {h : Heap} {d : PyData} {a : Addr} {as : List Addr} (r : Reads h (.ref a) d as) (k : keyB d = true) (n : d.depth ≤ 8) : (nestedKind P w).is h (nk d) a :=
  ⟨nk_reads d _ as r k, Nat.le_trans (nk_depth d k) n⟩
end Eg
namespace Eg
open PySem L2
/-- the module's objects, and the World, by which keys are hashed -/
structure Kw where
  fr : PySem.W.Frag
  w : World
instance : Coe Kw PySem.W.Frag := ⟨Kw.fr⟩
abbrev _root_.L2.Cx.KW (X : Cx) : Kw := ⟨X.K, X.w⟩
/-! ### data that a slot has: shared, or owned by the slot alone; od, sd: a dict with ints and texts as keys, kd, sn: with tuples as keys -/
inductive OD where
  | sh (d : PyData)
  | ol (xs : List PyData)
  | od (kvs : List (Key × PyData))
  | kd (kvs : List (PyData × PyData))
  | sd (kvs : List (Key × PyData))
  | sn (kvs : List (PyData × PyData))
  | sc (ns : List Int)
def OD.isO : OD → Bool
  | .sh _ => false
  | .sc _ => false
  | .sd _ => false
  | .sn _ => false
  | .ol _ => true
  | .od _ => true
  | .kd _ => true
abbrev Rho := List (Option OD)
structure Xc where
  cls : Nat
  flds : List PyData
inductive Res (α : Type) where
  | ok (a : α) (r : Rho)
  | ex (x : Xc) (r : Rho)
  | bad
abbrev M (α : Type) := Rho → Res α
def M.bind {α β : Type} (m : M α) (f : α → M β) : M β := fun ρ => match m ρ with
  | .ok a ρ' => f a ρ'
  | .ex x ρ' => .ex x ρ'
  | .bad => .bad
def M.ret {α : Type} (a : α) : M α := fun ρ => .ok a ρ
def M.bad {α : Type} : M α := fun _ => .bad
def M.lift {α : Type} : Option α → M α
  | some a => M.ret a
  | none => M.bad
/-! ### relations -/
mutual
inductive DV (K : Kw) (H : Hp) : V → PyData → Prop
  | non : DV K H .non .none
  | bl (b : Bool) : DV K H (.bl b) (.bool b)
  | int (i : Int) : DV K H (.int i) (.int i)
  | str (x : Str) : DV K H (.str x) (.str x)
  | lst {a : Addr} {xs : List V} {ds : List PyData} : H a = some (.lst xs) → DVs K H xs ds → DV K H (.ref a) (.list ds)
  | tup {a : Addr} {xs : List V} {ds : List PyData} : SqT K H a xs → DVs K H xs ds → DV K H (.ref a) (.tuple ds)
inductive DVs (K : Kw) (H : Hp) : List V → List PyData → Prop
  | nil : DVs K H [] []
  | cons {v : V} {vs : List V} {d : PyData} {ds : List PyData} : DV K H v d → DVs K H vs ds → DVs K H (v :: vs) (d :: ds)
end
section
variable {K : Kw}
theorem _root_.L2.Same.sqT {K : PySem.W.Frag} {H H' : Hp} {a : Addr} {xs : List V} (e : Same H H') (h : SqT K H a xs) : SqT K H' a xs := by
  rcases h with (h | ⟨o, h⟩) | h
  · exact .inl (.inl (e _ _ h))
  · exact .inl (.inr ⟨o, e _ _ h⟩)
  · exact .inr h
mutual
theorem DV.mono {H H' : Hp} (e : Same H H') : ∀ {v : V} {d : PyData}, DV K H v d → DV K H' v d
  | _, _, .non => .non
  | _, _, .bl b => .bl b
  | _, _, .int i => .int i
  | _, _, .str x => .str x
  | _, _, .lst h1 h2 => .lst (e _ _ h1) (DVs.mono e h2)
  | _, _, .tup h1 h2 => .tup (e.sqT h1) (DVs.mono e h2)
theorem DVs.mono {H H' : Hp} (e : Same H H') : ∀ {vs : List V} {ds : List PyData}, DVs K H vs ds → DVs K H' vs ds
  | _, _, .nil => .nil
  | _, _, .cons h1 h2 => .cons (DV.mono e h1) (DVs.mono e h2)
end
mutual
theorem DV.dp {H : Hp} : ∀ {v : V} {d : PyData}, DV K H v d → L2.Dp K H v d
  | _, _, .non => .non
  | _, _, .bl b => .bl b
  | _, _, .int i => .int i
  | _, _, .str x => .str x
  | _, _, .lst h1 h2 => .lst (SqL.of h1) (DVs.dp h2)
  | _, _, .tup h1 h2 => .tup h1 (DVs.dp h2)
theorem DVs.dp {H : Hp} : ∀ {vs : List V} {ds : List PyData}, DVs K H vs ds → L2.DpAll K H vs ds
  | _, _, .nil => .nil
  | _, _, .cons h1 h2 => .cons (DV.dp h1) (DVs.dp h2)
end
theorem DVs.len {H : Hp} : ∀ {vs : List V} {ds : List PyData}, DVs K H vs ds → vs.length = ds.length
  | _, _, .nil => rfl
  | _, _, .cons _ h => by rw [List.length_cons, List.length_cons, DVs.len h]
theorem DVs.append {H : Hp} : ∀ {vs ws : List V} {ds es : List PyData}, DVs K H vs ds → DVs K H ws es → DVs K H (vs ++ ws) (ds ++ es)
  | _, _, _, _, .nil, h => h
  | _, _, _, _, .cons h1 h2, h => .cons h1 (DVs.append h2 h)
theorem DVs.get {H : Hp} : ∀ {vs : List V} {ds : List PyData} {i : Nat} {d : PyData}, DVs K H vs ds → ds[i]? = some d → ∃ v, vs[i]? = some v ∧ DV K H v d
  | _, _, _, _, .nil, e => by simp at e
  | _, _, 0, _, .cons h _, e => by simp at e; subst e; exact ⟨_, rfl, h⟩
  | _, _, i + 1, d, .cons _ h, e => by
    obtain ⟨v, h1, h2⟩ := DVs.get (i := i) (d := d) h (by simpa using e)
    exact ⟨v, by simpa using h1, h2⟩
theorem DVs.get' {H : Hp} : ∀ {vs : List V} {ds : List PyData} {i : Nat} {v : V}, DVs K H vs ds → vs[i]? = some v → ∃ d, ds[i]? = some d ∧ DV K H v d
  | _, _, _, _, .nil, e => by simp at e
  | _, _, 0, _, .cons h _, e => by simp at e; subst e; exact ⟨_, rfl, h⟩
  | _, _, i + 1, v, .cons _ h, e => by
    obtain ⟨d, h1, h2⟩ := DVs.get' (i := i) (v := v) h (by simpa using e)
    exact ⟨d, by simpa using h1, h2⟩
theorem DVs.take {H : Hp} : ∀ {vs : List V} {ds : List PyData} (n : Nat), DVs K H vs ds → DVs K H (vs.take n) (ds.take n)
  | _, _, 0, _ => .nil
  | _, _, _ + 1, .nil => .nil
  | _, _, n + 1, .cons h1 h2 => .cons h1 (DVs.take n h2)
theorem DVs.drop {H : Hp} : ∀ {vs : List V} {ds : List PyData} (n : Nat), DVs K H vs ds → DVs K H (vs.drop n) (ds.drop n)
  | _, _, 0, h => h
  | _, _, _ + 1, .nil => .nil
  | _, _, n + 1, .cons h1 h2 => DVs.drop n h2
theorem DVs.rev {H : Hp} : ∀ {vs : List V} {ds : List PyData}, DVs K H vs ds → DVs K H vs.reverse ds.reverse
  | _, _, .nil => .nil
  | _, _, .cons h1 h2 => by rw [List.reverse_cons, List.reverse_cons]; exact DVs.append (DVs.rev h2) (.cons h1 .nil)
theorem DVs.set {H : Hp} {v : V} {d : PyData} (h : DV K H v d) : ∀ {vs : List V} {ds : List PyData} (i : Nat), DVs K H vs ds → DVs K H (vs.set i v) (ds.set i d)
  | _, _, _, .nil => .nil
  | _, _, 0, .cons _ h2 => .cons h h2
  | _, _, i + 1, .cons h1 h2 => .cons h1 (DVs.set h i h2)
theorem DVs.erase {H : Hp} : ∀ {vs : List V} {ds : List PyData} (i : Nat), DVs K H vs ds → DVs K H (vs.eraseIdx i) (ds.eraseIdx i)
  | _, _, _, .nil => .nil
  | _, _, 0, .cons _ h2 => h2
  | _, _, i + 1, .cons h1 h2 => .cons h1 (DVs.erase i h2)
/-- a dict's entries -/
inductive KD (K : Kw) (H : Hp) : List (Key × V) → List (Key × PyData) → Prop
  | nil : KD K H [] []
  | cons {k : Key} {v : V} {d : PyData} {es : List (Key × V)} {kvs : List (Key × PyData)} : DV K H v d → KD K H es kvs → KD K H ((k, v) :: es) ((k, d) :: kvs)
theorem KD.mono {H H' : Hp} (e : Same H H') : ∀ {es : List (Key × V)} {kvs : List (Key × PyData)}, KD K H es kvs → KD K H' es kvs
  | _, _, .nil => .nil
  | _, _, .cons h1 h2 => .cons (DV.mono e h1) (KD.mono e h2)
/-! dicts whose keys are tuples -/
abbrev KRow := NestedKey × Addr × V
/-- what the object at a holds: rows of a key, where its tuple stands, a value -/
structure KObj (w : World) (a : Addr) (L : List KRow) (h : Heap) : Prop where
  far : (a == sysModules) = false
  size : L.length ≤ sizeLine
  ob : ∃ xs : List (NestedKey × Addr × Value), Paired (fun (p : KRow) (q : NestedKey × Addr × Value) => p.1 = q.1 ∧ p.2.1 = q.2.1 ∧ RelV p.2.2 q.2.2) L xs ∧ (xs.map (·.1)).Nodup ∧
    ∃ o es ep, h.get? a = some o ∧ o.ExactDict ∧ o.data = .dict es ep ∧ es.toList = xs.map fun x => (⟨x.1.hash w, .ref x.2.1, x.2.2⟩ : DictEntry)
def KO (w : World) (a : Addr) (L : List KRow) : HO := .ext (KObj w a L)
inductive KN (K : Kw) (H : Hp) : List KRow → List (PyData × PyData) → Prop
  | nil : KN K H [] []
  | cons {k d : PyData} {b : Addr} {v : V} {L : List KRow} {kvs : List (PyData × PyData)} : keyB k = true → k.depth ≤ 8 → DV K H (.ref b) k → DV K H v d → KN K H L kvs → KN K H ((nk k, b, v) :: L) ((k, d) :: kvs)
theorem KN.mono {H H' : Hp} (e : Same H H') : ∀ {L : List KRow} {kvs : List (PyData × PyData)}, KN K H L kvs → KN K H' L kvs
  | _, _, .nil => .nil
  | _, _, .cons h0 h1 h2 h3 h4 => .cons h0 h1 (DV.mono e h2) (DV.mono e h3) (KN.mono e h4)
/-- what the value of a slot is, F: what never changes any more -/
def OR (K : Kw) (F H : Hp) (v : V) : OD → Prop
  | .sh d => DV K F v d
  | .ol xs => ∃ a vs, v = .ref a ∧ F a = none ∧ H a = some (.lst vs) ∧ DVs K F vs xs
  | .od kvs => ∃ a es, v = .ref a ∧ F a = none ∧ H a = some (.dK es) ∧ KD K F es kvs
  | .kd kvs => ∃ a L, v = .ref a ∧ F a = none ∧ H a = some (KO K.w a L) ∧ KN K F L kvs
  | .sd kvs => ∃ a es, v = .ref a ∧ F a = some (.dK es) ∧ KD K F es kvs
  | .sn kvs => ∃ a L, v = .ref a ∧ F a = some (KO K.w a L) ∧ KN K F L kvs
  | .sc ns => ∃ a, v = .ref a ∧ SqL K F a (ns.map V.int)
def own (σ : St) (ρ : Rho) (b : Addr) : Prop := ∃ (i : Nat) (o : OD), ρ[i]? = some (some o) ∧ o.isO = true ∧ σ[i]? = some (some (V.ref b))
structure SR (K : Kw) (F H : Hp) (σ : St) (ρ : Rho) : Prop where
  sub : Same F H
  len : ρ.length = σ.length
  sl : ∀ (i : Nat) (o : OD), ρ[i]? = some (some o) → ∃ v, σ[i]? = some (some v) ∧ OR K F H v o
  sep : ∀ (i j : Nat) (o o' : OD) (a : Addr), i ≠ j → ρ[i]? = some (some o) → o.isO = true → ρ[j]? = some (some o') → o'.isO = true → σ[i]? = some (some (V.ref a)) → σ[j]? ≠ some (some (V.ref a))
structure Grow (ow ow' : Addr → Prop) (F H F' H' : Hp) : Prop where
  ext : Same F F'
  keep : ∀ b o, H b = some o → ¬ ow b → H' b = some o
  new : ∀ b, F' b ≠ none → F b ≠ none ∨ H b = none ∨ ow b
  ows : ∀ b, ow' b → ow b ∨ H b = none
section
variable {ow ow1 ow2 : Addr → Prop} {F H F1 H1 F2 H2 : Hp}
theorem Grow.refl : Grow ow ow F H F H := ⟨Same.refl _, fun _ _ h _ => h, fun _ h => .inl h, fun _ h => .inl h⟩
theorem Grow.back (g : Grow ow ow1 F H F1 H1) {b : Addr} (h : H1 b = none) : H b = none ∨ ow b := by
  by_cases hb : ow b
  · exact .inr hb
  · cases e : H b with
    | none => exact .inl rfl
    | some o => rw [g.keep b o e hb] at h; cases h
theorem Grow.trans (g : Grow ow ow1 F H F1 H1) (g' : Grow ow1 ow2 F1 H1 F2 H2) : Grow ow ow2 F H F2 H2 := by
  have key : ∀ b o, H b = some o → ¬ ow b → ¬ ow1 b := fun b o h n h1 => by
    rcases g.ows b h1 with z | z
    · exact n z
    · rw [h] at z; cases z
  refine ⟨g.ext.trans g'.ext, fun b o h n => g'.keep b o (g.keep b o h n) (key b o h n), fun b h => ?_, fun b h => ?_⟩
  · rcases g'.new b h with z | z | z
    · exact g.new b z
    · exact .inr (g.back z)
    · rcases g.ows b z with y | y
      · exact .inr (.inr y)
      · exact .inr (.inl y)
  · rcases g'.ows b h with z | z
    · exact g.ows b z
    · rcases g.back z with y | y
      · exact .inr y
      · exact .inl y
theorem Grow.less (g : Grow ow ow1 F H F1 H1) (h : ∀ b, ow2 b → ow1 b) : Grow ow ow2 F H F1 H1 := ⟨g.ext, g.keep, g.new, fun b z => g.ows b (h b z)⟩
/-- something new that never changes -/
theorem Grow.laid {p : Addr} {o : HO} (hp : H p = none) (fp : F p = none) : Grow ow ow F H (upd F p o) (upd H p o) := by
  refine ⟨fun b u h => ?_, fun b u h _ => ?_, fun b h => ?_, fun b h => .inl h⟩
  · rw [upd_ne (ne_of_none h fp)]; exact h
  · rw [upd_ne (ne_of_none h hp)]; exact h
  · by_cases e : b = p
    · subst e; exact .inr (.inl hp)
    · rw [upd_ne e] at h; exact .inl h
/-- something new that may change -/
theorem Grow.fresh {p : Addr} {o : HO} (hp : H p = none) : Grow ow ow F H F (upd H p o) :=
  ⟨Same.refl _, fun b u h _ => by rw [upd_ne (ne_of_none h hp)]; exact h, fun b h => .inl h, fun b h => .inl h⟩
/-- what was new is fixed -/
theorem Grow.fix {p : Addr} {o : HO} (fp : F1 p = none) (g : Grow ow ow1 F H F1 H1) (hp : H p = none ∨ ow p) : Grow ow ow1 F H (upd F1 p o) H1 := by
  refine ⟨fun b u h => ?_, g.keep, fun b h => ?_, g.ows⟩
  · have := g.ext b u h
    rw [upd_ne (ne_of_none this fp)]; exact this
  · by_cases e : b = p
    · subst e; exact .inr hp
    · rw [upd_ne e] at h; exact g.new b h
/-- an owned one is written -/
theorem Grow.wr {p : Addr} {o : HO} (h : ow p) : Grow ow ow F H F (upd H p o) :=
  ⟨Same.refl _, fun b u e n => by rw [upd_ne (fun z => n (by rw [z]; exact h))]; exact e, fun b h => .inl h, fun b h => .inl h⟩
end
section
variable {F H F' H' : Hp} {σ : St} {ρ : Rho} {p : Addr} {o : HO} {v : V} {r : OD}
theorem OR.keep (h : OR K F H v r) (e : Same F F') (hk : ∀ a, v = .ref a → r.isO = true → F' a = none ∧ ∀ u, H a = some u → H' a = some u) : OR K F' H' v r := by
  cases r with
  | sh d => exact DV.mono e h
  | sc ns =>
    obtain ⟨a, rfl, h⟩ := h
    exact ⟨a, rfl, e.seq h⟩
  | ol xs =>
    obtain ⟨a, vs, rfl, h1, h2, h3⟩ := h
    obtain ⟨k1, k2⟩ := hk a rfl rfl
    exact ⟨a, vs, rfl, k1, k2 _ h2, DVs.mono e h3⟩
  | od kvs =>
    obtain ⟨a, vs, rfl, h1, h2, h3⟩ := h
    obtain ⟨k1, k2⟩ := hk a rfl rfl
    exact ⟨a, vs, rfl, k1, k2 _ h2, KD.mono e h3⟩
  | kd kvs =>
    obtain ⟨a, vs, rfl, h1, h2, h3⟩ := h
    obtain ⟨k1, k2⟩ := hk a rfl rfl
    exact ⟨a, vs, rfl, k1, k2 _ h2, KN.mono e h3⟩
  | sd kvs =>
    obtain ⟨a, vs, rfl, h1, h3⟩ := h
    exact ⟨a, vs, rfl, e _ _ h1, KD.mono e h3⟩
  | sn kvs =>
    obtain ⟨a, vs, rfl, h1, h3⟩ := h
    exact ⟨a, vs, rfl, e _ _ h1, KN.mono e h3⟩
theorem OR.refs (h : OR K F H v r) (i : r.isO = true) : ∃ a u, v = .ref a ∧ F a = none ∧ H a = some u := by
  cases r with
  | sh d => cases i
  | sc ns => cases i
  | sd ns => cases i
  | sn ns => cases i
  | ol xs => obtain ⟨a, vs, rfl, h1, h2, h3⟩ := h; exact ⟨a, _, rfl, h1, h2⟩
  | od kvs => obtain ⟨a, vs, rfl, h1, h2, h3⟩ := h; exact ⟨a, _, rfl, h1, h2⟩
  | kd kvs => obtain ⟨a, vs, rfl, h1, h2, h3⟩ := h; exact ⟨a, _, rfl, h1, h2⟩
theorem own.at (s : SR K F H σ ρ) (h : own σ ρ p) : F p = none ∧ ∃ u, H p = some u := by
  obtain ⟨i, o, e1, e2, e3⟩ := h
  obtain ⟨v, e4, e5⟩ := s.sl i o e1
  rw [e3] at e4; cases e4
  obtain ⟨a, u, z, h1, h2⟩ := e5.refs e2
  cases z
  exact ⟨h1, u, h2⟩
/-- the state goes on: all owned ones are as they were -/
theorem SR.on (s : SR K F H σ ρ) (e : Same F F') (sub : Same F' H') (hk : ∀ a, own σ ρ a → F' a = none ∧ ∀ u, H a = some u → H' a = some u) : SR K F' H' σ ρ := by
  refine ⟨sub, s.len, fun i o h => ?_, s.sep⟩
  obtain ⟨v, e1, e2⟩ := s.sl i o h
  exact ⟨v, e1, e2.keep e fun a ha io => hk a ⟨i, o, h, io, by rw [e1, ha]⟩⟩
theorem SR.laid (s : SR K F H σ ρ) (hp : H p = none) : SR K (upd F p o) (upd H p o) σ ρ := by
  have fp : F p = none := s.sub.free hp
  refine s.on (fun b u h => by rw [upd_ne (ne_of_none h fp)]; exact h) (fun b u h => ?_) fun a ha => ?_
  · by_cases e : b = p
    · subst e; rw [upd_same] at h ⊢; exact h
    · rw [upd_ne e] at h ⊢; exact s.sub b u h
  · obtain ⟨h1, u, h2⟩ := own.at s ha
    have ne : a ≠ p := ne_of_none h2 hp
    exact ⟨by rw [upd_ne ne]; exact h1, fun u h => by rw [upd_ne ne]; exact h⟩
theorem SR.fresh (s : SR K F H σ ρ) (hp : H p = none) : SR K F (upd H p o) σ ρ := by
  refine s.on (Same.refl _) (fun b u h => ?_) fun a ha => ?_
  · have := s.sub b u h
    rw [upd_ne (ne_of_none this hp)]; exact this
  · obtain ⟨h1, u, h2⟩ := own.at s ha
    exact ⟨h1, fun u h => by rw [upd_ne (ne_of_none h2 hp)]; exact h⟩
theorem SR.fix (s : SR K F H σ ρ) (no : ¬ own σ ρ p) (h : H p = some o) (fp : F p = none) : SR K (upd F p o) H σ ρ := by
  refine s.on (fun b u h => by rw [upd_ne (ne_of_none h fp)]; exact h) (fun b u q => ?_) fun a ha => ?_
  · by_cases e : b = p
    · subst e; rw [upd_same] at q; rw [← q]; exact h
    · rw [upd_ne e] at q; exact s.sub b u q
  · obtain ⟨h1, u, h2⟩ := own.at s ha
    exact ⟨by rw [upd_ne (fun z => no (by rw [← z]; exact ha))]; exact h1, fun u h => h⟩
end
/-! ### what is wanted behind -/
structure Ct where
  K : Kw
  W : WX
  XR : Hp → Hp → Value → Option Addr → Xc → Prop
abbrev RRel (α : Type) := Hp → Hp → St → Rho → Rho → Hp → V → α → Prop
def PostE {α β : Type} (C : Ct) (RR : Hp → Hp → St → Rho → Rho → Hp → β → α → Prop) (σ : St) (ρ : Rho) (F H : Hp) (Q : β → Hp → Prop) : Res α → Prop
  | .ok r ρ' => ∀ F' H' v, Grow (own σ ρ) (own σ ρ') F H F' H' → SR C.K F' H' σ ρ' → RR F' H' σ ρ' ρ H v r → Q v H'
  | .ex x ρ' => ∀ F' H' cls d, Grow (own σ ρ) (own σ ρ') F H F' H' → SR C.K F' H' σ ρ' → C.XR F' H' cls d x → C.W cls d σ H'
  | .bad => False
def rD (K : Kw) : RRel PyData := fun F' _ _ _ _ _ v d => DV K F' v d
def rO (K : Kw) : RRel OD := fun F' H' σ ρ' ρ H v r => OR K F' H' v r ∧ (r.isO = true → ∀ a, v = .ref a → ¬ own σ ρ' a ∧ (H a = none ∨ own σ ρ a))
/-- as it stands now: a look at a slot -/
def rP (K : Kw) : RRel PyData := fun _ H' _ _ _ _ v d => DV K H' v d
def tD (C : Ct) (m : M PyData) : TE := fun σ H Q => ∃ F ρ, SR C.K F H σ ρ ∧ PostE C (rD C.K) σ ρ F H Q (m ρ)
def tO (C : Ct) (m : M OD) : TE := fun σ H Q => ∃ F ρ, SR C.K F H σ ρ ∧ PostE C (rO C.K) σ ρ F H Q (m ρ)
def tP (C : Ct) (m : M PyData) : TE := fun σ H Q => ∃ F ρ, SR C.K F H σ ρ ∧ PostE C (rP C.K) σ ρ F H Q (m ρ)
def tT (C : Ct) (m : M Bool) : TT := fun σ H Q => ∃ F ρ, SR C.K F H σ ρ ∧ PostE (β := Bool) C (fun _ _ _ _ _ _ v d => v = d) σ ρ F H Q (m ρ)
section
variable {α β γ : Type} {C : Ct} {σ : St} {ρ ρ1 : Rho} {F H F1 H1 : Hp}
/-- on from a later state -/
theorem PostE.step {RR RR' : Hp → Hp → St → Rho → Rho → Hp → β → α → Prop} {Q : β → Hp → Prop} {x : Res α} (g : Grow (own σ ρ) (own σ ρ1) F H F1 H1)
    (h : PostE C RR σ ρ F H Q x) (hr : ∀ F' H' ρ' v r, Grow (own σ ρ1) (own σ ρ') F1 H1 F' H' → RR' F' H' σ ρ' ρ1 H1 v r → RR F' H' σ ρ' ρ H v r) : PostE C RR' σ ρ1 F1 H1 Q x := by
  cases x with
  | ok r ρ' => exact fun F' H' v g' s r' => h F' H' v (g.trans g') s (hr _ _ _ _ _ g' r')
  | ex x ρ' => exact fun F' H' cls d g' s r' => h F' H' cls d (g.trans g') s r'
  | bad => exact h
theorem PostE.stepD {Q : VK} {x : Res PyData} (g : Grow (own σ ρ) (own σ ρ1) F H F1 H1) (h : PostE C (rD C.K) σ ρ F H Q x) : PostE C (rD C.K) σ ρ1 F1 H1 Q x := h.step g fun _ _ _ _ _ _ r => r
theorem PostE.stepO {Q : VK} {x : Res OD} (g : Grow (own σ ρ) (own σ ρ1) F H F1 H1) (h : PostE C (rO C.K) σ ρ F H Q x) : PostE C (rO C.K) σ ρ1 F1 H1 Q x := h.step g fun F' H' ρ' v r g' q => by
  refine ⟨q.1, fun io a e => ⟨(q.2 io a e).1, ?_⟩⟩
  rcases (q.2 io a e).2 with z | z
  · exact g.back z
  · rcases g.ows a z with y | y
    · exact .inr y
    · exact .inl y
/-- a part of an expression: what it asks, and what is asked behind it -/
theorem PostE.part {δ : Type} {RA : Hp → Hp → St → Rho → Rho → Hp → β → α → Prop} {RR : Hp → Hp → St → Rho → Rho → Hp → δ → γ → Prop} {Q : δ → Hp → Prop} {R : β → Hp → Prop} {ma : M α} {f : α → M γ}
    (h : PostE C RR σ ρ F H Q (ma.bind f ρ))
    (k : ∀ a ρ' F' H' v, ma ρ = .ok a ρ' → PostE C RR σ ρ F H Q (f a ρ') → Grow (own σ ρ) (own σ ρ') F H F' H' → SR C.K F' H' σ ρ' → RA F' H' σ ρ' ρ H v a → R v H') : PostE C RA σ ρ F H R (ma ρ) := by
  unfold M.bind at h
  cases e : ma ρ with
  | ok a ρ' => rw [e] at h; exact fun F' H' v g s r => k a ρ' F' H' v e h g s r
  | ex x ρ' => rw [e] at h; exact h
  | bad => rw [e] at h; exact h
end
/-! ### shared and owned results -/
def fz (o : OD) : M PyData := match o with
  | .sh d => M.ret d
  | .ol xs => M.ret (.list xs)
  | _ => M.bad
section
variable {X : Cx} {e : Expr} {C : Ct}
/-- a shared result -/
theorem o_of_d {m : M PyData} (h : PE X e (tD C m)) : PE X e (tO C (m.bind fun d => M.ret (.sh d))) := by
  refine ⟨fun pins s σ H Q I q => h.run pins s σ H Q I ?_⟩
  obtain ⟨F, ρ, sr, p⟩ := q
  exact ⟨F, ρ, sr, p.part fun a ρ' F' H' v _ q g s r => q F' H' v g s ⟨r, fun z => by cases z⟩⟩
/-- a new list that nobody changes any more -/
theorem d_of_o {m : M OD} (h : PE X e (tO C m)) : PE X e (tD C (m.bind fz)) := by
  refine ⟨fun pins s σ H Q I q => h.run pins s σ H Q I ?_⟩
  obtain ⟨F, ρ, sr, p⟩ := q
  refine ⟨F, ρ, sr, p.part fun a ρ' F' H' v _ q g s r => ?_⟩
  cases a with
  | sh d => exact q F' H' v g s r.1
  | od kvs => exact q.elim
  | kd kvs => exact q.elim
  | sd kvs => exact q.elim
  | sn kvs => exact q.elim
  | sc kvs => exact q.elim
  | ol xs =>
    obtain ⟨⟨a, vs, rfl, h1, h2, h3⟩, h4⟩ := r
    obtain ⟨n1, n2⟩ := h4 rfl a rfl
    refine q (upd F' a (.lst vs)) H' (.ref a) (g.fix h1 n2) (s.fix n1 h2 h1) ?_
    exact .lst upd_same (DVs.mono (fun b u h => by rw [upd_ne (ne_of_none h h1)]; exact h) h3)
theorem p_of_d {m : M PyData} (h : PE X e (tD C m)) : PE X e (tP C m) := by
  refine ⟨fun pins s σ H Q I q => h.run pins s σ H Q I ?_⟩
  obtain ⟨F, ρ, sr, p⟩ := q
  refine ⟨F, ρ, sr, ?_⟩
  cases e : m ρ with
  | ok r ρ' => rw [e] at p; exact fun F' H' v g s q => p F' H' v g s (DV.mono s.sub q)
  | ex x ρ' => rw [e] at p; exact p
  | bad => rw [e] at p; exact p
end
end
end Eg
namespace Eg
open PySem L2 PySem.W PySem.SeqAt
/-! ## expressions -/
section
variable {X : Cx} {C : Ct} {e a b : Expr} {pos : Pos}
theorem _root_.L2.PE.imp {t t' : TE} (h : PE X e t) (i : ∀ σ H Q, t' σ H Q → t σ H Q) : PE X e t' := ⟨fun pins s σ H Q I q => h.run pins s σ H Q I (i _ _ _ q)⟩
/-- atoms -/
def atom : PyData → Option V
  | .none => some .non
  | .bool b => some (.bl b)
  | .int i => some (.int i)
  | .str x => some (.str x)
  | _ => none
theorem atom_dv {K : Kw} {H : Hp} {d : PyData} {v : V} (h : atom d = some v) : DV K H v d := by
  cases d <;> simp [atom] at h <;> subst h <;> constructor
theorem dv_atom {K : Kw} {H : Hp} {d : PyData} {v w : V} (h : atom d = some v) (r : DV K H w d) : w = v := by
  cases d <;> simp [atom] at h <;> subst h <;> cases r <;> rfl
/-- a constant -/
theorem d_c {t : TE} {v : V} {d : PyData} (h : PE X e (tC v)) (hd : atom d = some v) : PE X e (tD C (M.ret d)) :=
  h.imp fun σ H Q ⟨F, ρ, sr, p⟩ => p F H v Grow.refl sr (atom_dv hd)
theorem d_int {i : Int} {j} : PE X (.Constant (.int i) j pos) (tD C (M.ret (.int i))) := d_c (t := tC (.int i)) pe_int rfl
theorem d_str {i : Str} {j} : PE X (.Constant (.str i) j pos) (tD C (M.ret (.str i))) := d_c (t := tC (.str i)) pe_str rfl
theorem d_bool {i : Bool} {j} : PE X (.Constant (.bool i) j pos) (tD C (M.ret (.bool i))) := d_c (t := tC (.bl i)) pe_bl rfl
theorem d_none {j} : PE X (.Constant .none j pos) (tD C (M.ret .none)) := d_c (t := tC .non) pe_non rfl
/-! ### names -/
theorem SR.wipe {K : Kw} {F H : Hp} {σ : St} {ρ : Rho} (i : Nat) (s : SR K F H σ ρ) : SR K F H σ (ρ.set i none) := by
  refine ⟨s.sub, by rw [List.length_set]; exact s.len, fun j o h => ?_, fun j k o o' a ne h1 i1 h2 i2 => ?_⟩
  · by_cases e : i = j
    · subst e
      by_cases hl : i < ρ.length
      · rw [List.getElem?_set_self hl] at h; cases h
      · rw [List.getElem?_eq_none (by rw [List.length_set]; omega)] at h; cases h
    · rw [List.getElem?_set_ne e] at h; exact s.sl j o h
  · have go : ∀ {j : Nat} {o : OD}, (ρ.set i none)[j]? = some (some o) → ρ[j]? = some (some o) := fun {j o} h => by
      by_cases e : i = j
      · subst e
        by_cases hl : i < ρ.length
        · rw [List.getElem?_set_self hl] at h; cases h
        · rw [List.getElem?_eq_none (by rw [List.length_set]; omega)] at h; cases h
      · rw [List.getElem?_set_ne e] at h; exact h
    exact s.sep j k o o' a ne (go h1) i1 (go h2) i2
theorem own.wipe {σ : St} {ρ : Rho} {i : Nat} {b : Addr} (h : own σ (ρ.set i none) b) : own σ ρ b ∧ ∀ o a, ρ[i]? = some (some o) → σ[i]? = some (some (.ref a)) → True := by
  refine ⟨?_, fun _ _ _ _ => trivial⟩
  obtain ⟨j, o, e1, e2, e3⟩ := h
  by_cases e : i = j
  · subst e
    by_cases hl : i < ρ.length
    · rw [List.getElem?_set_self hl] at e1; cases e1
    · rw [List.getElem?_eq_none (by rw [List.length_set]; omega)] at e1; cases e1
  · rw [List.getElem?_set_ne e] at e1; exact ⟨j, o, e1, e2, e3⟩
theorem own.wipeNe {K : Kw} {F H : Hp} {σ : St} {ρ : Rho} {i : Nat} {o : OD} {a : Addr} (s : SR K F H σ ρ) (h : ρ[i]? = some (some o)) (io : o.isO = true) (ha : σ[i]? = some (some (.ref a))) : ¬ own σ (ρ.set i Option.none) a := by
  rintro ⟨j, o', e1, e2, e3⟩
  by_cases e : i = j
  · subst e
    have hl : i < ρ.length := (List.getElem?_eq_some_iff.mp h).1
    rw [List.getElem?_set_self hl] at e1; cases e1
  · rw [List.getElem?_set_ne e] at e1
    exact s.sep i j o o' a e h io e1 e2 ha e3
/-- a slot gets something shared -/
theorem SR.put {K : Kw} {F H : Hp} {σ : St} {ρ : Rho} {i : Nat} {v : V} {o : OD} (s : SR K F H σ ρ) (hv : σ[i]? = some (some v)) (h : OR K F H v o) (no : o.isO = true → ∀ a, v = .ref a → ¬ own σ (ρ.set i none) a) : SR K F H σ (ρ.set i (some o)) := by
  have n := s.wipe i
  have hl : i < ρ.length := by rw [s.len]; exact (List.getElem?_eq_some_iff.mp hv).1
  have same : ∀ {j : Nat}, i ≠ j → (ρ.set i (some o))[j]? = (ρ.set i none)[j]? := fun {j} e => by rw [List.getElem?_set_ne e, List.getElem?_set_ne e]
  refine ⟨s.sub, by rw [List.length_set]; exact s.len, fun j u hj => ?_, fun j k u u' a ne h1 i1 h2 i2 h3 h4 => ?_⟩
  · by_cases e : i = j
    · subst e
      rw [List.getElem?_set_self hl] at hj
      cases hj
      exact ⟨v, hv, h⟩
    · rw [same e] at hj; exact n.sl j u hj
  · by_cases ej : i = j
    · subst ej
      rw [List.getElem?_set_self hl] at h1
      cases h1
      rw [same ne] at h2
      rw [hv] at h3
      exact no i1 a (Option.some.inj (Option.some.inj h3)) ⟨k, u', h2, i2, h4⟩
    · rw [same ej] at h1
      by_cases ek : i = k
      · subst ek
        rw [List.getElem?_set_self hl] at h2
        cases h2
        rw [hv] at h4
        exact no i2 a (Option.some.inj (Option.some.inj h4)) ⟨j, u, h1, i1, h3⟩
      · rw [same ek] at h2
        exact n.sep j k u u' a ne h1 i1 h2 i2 h3 h4
theorem own.put {σ : St} {ρ : Rho} {i : Nat} {o : OD} {b : Addr} (h : own σ (ρ.set i (some o)) b) : own σ (ρ.set i none) b ∨ (o.isO = true ∧ σ[i]? = some (some (.ref b))) := by
  obtain ⟨j, o', e1, e2, e3⟩ := h
  by_cases e : i = j
  · subst e
    by_cases hl : i < ρ.length
    · rw [List.getElem?_set_self hl] at e1; cases e1; exact .inr ⟨e2, e3⟩
    · rw [List.getElem?_eq_none (by rw [List.length_set]; omega)] at e1; cases e1
  · rw [List.getElem?_set_ne e] at e1
    exact .inl ⟨j, o', by rw [List.getElem?_set_ne e]; exact e1, e2, e3⟩
/-- the name's thing is fixed from now on -/
def mName (i : Nat) : M PyData := fun ρ => match ρ[i]? with
  | some (some (.sh d)) => .ok d ρ
  | some (some (.ol xs)) => .ok (.list xs) (ρ.set i (some (.sh (.list xs))))
  | _ => .bad
/-- a look at it -/
def mPeek (i : Nat) : M PyData := fun ρ => match ρ[i]? with
  | some (some (.sh d)) => .ok d ρ
  | some (some (.ol xs)) => .ok (.list xs) ρ
  | _ => .bad
/-- it is handed on, the slot has nothing then -/
def mTake (i : Nat) : M OD := fun ρ => match ρ[i]? with
  | some (some (.sc _)) => .bad
  | some (some o) => .ok o (ρ.set i none)
  | _ => .bad
theorem d_name {i : Nat} (h : PE X e (tVar i)) : PE X e (tD C (mName i)) := by
  refine PE.imp h fun σ H Q ⟨F, ρ, sr, p⟩ => ?_
  unfold mName at p
  cases q : ρ[i]? with
  | none => rw [q] at p; exact p.elim
  | some o =>
    rw [q] at p
    cases o with
    | none => exact p.elim
    | some o =>
      obtain ⟨v, hv, r⟩ := sr.sl i o q
      cases o with
      | sh d => exact ⟨v, hv, p F H v Grow.refl sr r⟩
      | od kvs => exact p.elim
      | kd kvs => exact p.elim
      | sd kvs => exact p.elim
      | sn kvs => exact p.elim
      | sc ns => exact p.elim
      | ol xs =>
        obtain ⟨a, vs, rfl, h1, h2, h3⟩ := r
        refine ⟨_, hv, p (upd F a (.lst vs)) H (.ref a) ?_ ?_ (.lst upd_same (DVs.mono (fun b u h => by rw [upd_ne (ne_of_none h h1)]; exact h) h3))⟩
        · refine Grow.less (Grow.fix h1 Grow.refl (.inr ⟨i, _, q, rfl, hv⟩)) fun b hb => ?_
          rcases hb.put with z | ⟨z, _⟩
          · exact (own.wipe z).1
          · cases z
        · have n := SR.fix (sr.wipe i) (own.wipeNe sr q rfl hv) h2 h1
          have n2 := SR.put (i := i) (o := .sh (.list xs)) n hv (.lst upd_same (DVs.mono (fun b u h => by rw [upd_ne (ne_of_none h h1)]; exact h) h3)) (fun z => by cases z)
          rw [List.set_set] at n2
          exact n2
theorem p_name {i : Nat} (h : PE X e (tVar i)) : PE X e (tP C (mPeek i)) := by
  refine PE.imp h fun σ H Q ⟨F, ρ, sr, p⟩ => ?_
  unfold mPeek at p
  cases q : ρ[i]? with
  | none => rw [q] at p; exact p.elim
  | some o =>
    rw [q] at p
    cases o with
    | none => exact p.elim
    | some o =>
      obtain ⟨v, hv, r⟩ := sr.sl i o q
      cases o with
      | sh d => exact ⟨v, hv, p F H v Grow.refl sr (DV.mono sr.sub r)⟩
      | od kvs => exact p.elim
      | kd kvs => exact p.elim
      | sd kvs => exact p.elim
      | sn kvs => exact p.elim
      | sc ns => exact p.elim
      | ol xs =>
        obtain ⟨a, vs, rfl, h1, h2, h3⟩ := r
        exact ⟨_, hv, p F H (.ref a) Grow.refl sr (.lst h2 (DVs.mono sr.sub h3))⟩
theorem o_take {i : Nat} (h : PE X e (tVar i)) : PE X e (tO C (mTake i)) := by
  refine PE.imp h fun σ H Q ⟨F, ρ, sr, p⟩ => ?_
  unfold mTake at p
  cases q : ρ[i]? with
  | none => rw [q] at p; exact p.elim
  | some o =>
    rw [q] at p
    cases o with
    | none => exact p.elim
    | some o =>
      obtain ⟨v, hv, r⟩ := sr.sl i o q
      have fin : PostE C (rO C.K) σ ρ F H Q (.ok o (ρ.set i none)) → ∃ v, σ[i]? = some (some v) ∧ Q v H := fun p =>
        ⟨v, hv, p F H v (Grow.less Grow.refl fun b hb => (own.wipe hb).1) (sr.wipe i) ⟨r, fun io a ha => by
          subst ha
          exact ⟨own.wipeNe sr q io hv, .inr ⟨i, o, q, io, hv⟩⟩⟩⟩
      cases o with
      | sh d => exact fin p
      | od kvs => exact fin p
      | kd kvs => exact fin p
      | sd kvs => exact fin p
      | sn kvs => exact fin p
      | sc ns => exact p.elim
      | ol xs => exact fin p
/-! ### two parts, their data fixed -/
/-- the wish goes back to an earlier state -/
def Stb {β α : Type} (RR : Hp → Hp → St → Rho → Rho → Hp → β → α → Prop) : Prop := ∀ σ ρ ρ1 F H F1 H1 ρ' F' H' v r, Grow (own σ ρ) (own σ ρ1) F H F1 H1 → RR F' H' σ ρ' ρ1 H1 v r → RR F' H' σ ρ' ρ H v r
theorem stb_D {K : Kw} : Stb (rD K) := fun _ _ _ _ _ _ _ _ _ _ _ _ _ r => r
theorem stb_P {K : Kw} : Stb (rP K) := fun _ _ _ _ _ _ _ _ _ _ _ _ _ r => r
theorem stb_O {K : Kw} : Stb (rO K) := fun _ _ _ _ _ _ _ _ _ _ v r g q => by
  refine ⟨q.1, fun io a e => ⟨(q.2 io a e).1, ?_⟩⟩
  rcases (q.2 io a e).2 with z | z
  · exact g.back z
  · rcases g.ows a z with y | y
    · exact .inr y
    · exact .inl y
theorem PostE.on {β γ : Type} {RR : Hp → Hp → St → Rho → Rho → Hp → β → γ → Prop} {σ : St} {ρ ρ1 : Rho} {F H F1 H1 : Hp} {Q : β → Hp → Prop} {x : Res γ} (h : PostE C RR σ ρ F H Q x) (st : Stb RR) (g : Grow (own σ ρ) (own σ ρ1) F H F1 H1) :
    PostE C RR σ ρ1 F1 H1 Q x := h.step g fun F' H' ρ' v r _ z => st _ _ _ _ _ _ _ _ _ _ _ _ g z
/-! ### arguments: a thing that is fixed, or a slot that is looked at -/
inductive Arg where
  | dat (d : PyData)
  | slot (i : Nat)
def res1 (ρ : Rho) : Arg → Option PyData
  | .dat d => some d
  | .slot i => match ρ[i]? with
    | some (some (.sh d)) => some d
    | some (some (.ol xs)) => some (.list xs)
    | _ => none
def rA (K : Kw) : Hp → Hp → St → Rho → Rho → Hp → V → Arg → Prop := fun F' _ σ _ _ _ v a => match a with
  | .dat d => DV K F' v d
  | .slot i => σ[i]? = some (some v)
def tA (C : Ct) (m : M Arg) : TE := fun σ H Q => ∃ F ρ, SR C.K F H σ ρ ∧ PostE C (rA C.K) σ ρ F H Q (m ρ)
theorem stb_A {K : Kw} : Stb (rA K) := fun _ _ _ _ _ _ _ _ _ _ _ _ _ r => r
/-- a view: a list as it stands now, anything else for good -/
def Vw (K : Kw) (F H : Hp) (v : V) (d : PyData) : Prop := match d with
  | .list ds => ∃ a vs, v = .ref a ∧ H a = some (.lst vs) ∧ DVs K F vs ds
  | d => DV K F v d
theorem Vw.of {K : Kw} {F H : Hp} {v : V} {d : PyData} (h : DV K F v d) (s : Same F H) : Vw K F H v d := by
  cases h with
  | lst h1 h2 => exact ⟨_, _, rfl, s _ _ h1, h2⟩
  | non => exact .non
  | bl b => exact .bl b
  | int b => exact .int b
  | str b => exact .str b
  | tup h1 h2 => exact .tup h1 h2
theorem Vw.dv {K : Kw} {F H : Hp} {v : V} {d : PyData} (h : Vw K F H v d) (s : Same F H) : DV K H v d := by
  cases d with
  | list ds =>
    obtain ⟨a, vs, rfl, h1, h2⟩ := h
    exact .lst h1 (DVs.mono s h2)
  | _ => exact DV.mono s h
theorem rA.view {K : Kw} {F H : Hp} {σ : St} {ρ ρ0 : Rho} {H0 : Hp} {v : V} {a : Arg} {d : PyData} (s : SR K F H σ ρ) (h : rA K F H σ ρ ρ0 H0 v a) (r : res1 ρ a = some d) : Vw K F H v d := by
  cases a with
  | dat e => cases r; exact Vw.of h s.sub
  | slot i =>
    have h : σ[i]? = some (some v) := h
    simp only [res1] at r
    cases q : ρ[i]? with
    | none => rw [q] at r; cases r
    | some o =>
      rw [q] at r
      cases o with
      | none => cases r
      | some o =>
        obtain ⟨v', hv, ro⟩ := s.sl i o q
        rw [h] at hv; cases hv
        cases o with
        | sh e => cases r; exact Vw.of ro s.sub
        | ol xs =>
          cases r
          obtain ⟨a, vs, e1, h1, h2, h3⟩ := ro
          exact ⟨a, vs, e1, h2, h3⟩
        | od _ => cases r
        | kd _ => cases r
        | sd _ => cases r
        | sn _ => cases r
        | sc _ => cases r
theorem rA.mono {K : Kw} {F H F' H' : Hp} {σ : St} {ρ ρ0 ρ' ρ0' : Rho} {H0 H0' : Hp} {v : V} {a : Arg} (e : Same F F') (h : rA K F H σ ρ ρ0 H0 v a) : rA K F' H' σ ρ' ρ0' H0' v a := by
  cases a with
  | dat d => exact DV.mono e h
  | slot i => exact h
theorem a_of_d {m : M PyData} (h : PE X e (tD C m)) : PE X e (tA C (m.bind fun d => M.ret (.dat d))) :=
  h.imp fun σ H Q ⟨F, ρ, sr, p⟩ => ⟨F, ρ, sr, p.part fun d ρ1 F1 H1 x e1 q1 g1 s1 r1 => q1 F1 H1 x g1 s1 r1⟩
def mSlot (i : Nat) : M Arg := fun ρ => match ρ[i]? with
  | some (some _) => .ok (.slot i) ρ
  | _ => .bad
theorem a_name {i : Nat} (h : PE X e (tVar i)) : PE X e (tA C (mSlot i)) := by
  refine PE.imp h fun σ H Q ⟨F, ρ, sr, p⟩ => ?_
  unfold mSlot at p
  cases q : ρ[i]? with
  | none => rw [q] at p; exact p.elim
  | some o =>
    rw [q] at p
    cases o with
    | none => exact p.elim
    | some o =>
      obtain ⟨v, hv, r⟩ := sr.sl i o q
      exact ⟨v, hv, p F H v Grow.refl sr hv⟩
/-- one part; what is asked behind it -/
theorem one {δ γ : Type} {ma : M Arg} {g : Arg → M γ} {RR : Hp → Hp → St → Rho → Rho → Hp → δ → γ → Prop} {σ : St} {ρ : Rho} {F H : Hp} {Q : δ → Hp → Prop} {R : V → Hp → Prop}
    (sr : SR C.K F H σ ρ) (st : Stb RR) (p : PostE C RR σ ρ F H Q (ma.bind g ρ))
    (k : ∀ x a ρ1 F1 H1, SR C.K F1 H1 σ ρ1 → Grow (own σ ρ) (own σ ρ1) F H F1 H1 → rA C.K F1 H1 σ ρ1 ρ H x a → PostE C RR σ ρ1 F1 H1 Q (g a ρ1) → R x H1) : tA C ma σ H R :=
  ⟨F, ρ, sr, p.part fun d ρ1 F1 H1 x e1 q1 g1 s1 r1 => k x d ρ1 F1 H1 s1 g1 r1 (q1.on st g1)⟩
def M.get : M Rho := fun ρ => .ok ρ ρ
/-- an operation on what the two are then -/
def m2 {γ : Type} (g : PyData → PyData → Option γ) (ma mb : M Arg) : M γ := ma.bind fun a => mb.bind fun b => M.get.bind fun ρ => M.lift (do g (← res1 ρ a) (← res1 ρ b))
def m1 {γ : Type} (g : PyData → Option γ) (ma : M Arg) : M γ := ma.bind fun a => M.get.bind fun ρ => M.lift (do g (← res1 ρ a))
theorem lift_some {γ : Type} {RR : Hp → Hp → St → Rho → Rho → Hp → V → γ → Prop} {σ : St} {ρ ρ0 : Rho} {F H : Hp} {Q : VK} {x : Option γ} (p : PostE C RR σ ρ0 F H Q (M.lift x ρ)) : ∃ d, x = some d ∧ PostE C RR σ ρ0 F H Q (.ok d ρ) := by
  cases x with
  | none => exact p.elim
  | some d => exact ⟨d, rfl, p⟩
theorem two {γ : Type} {ma mb : M Arg} {g : PyData → PyData → Option γ} {RR : Hp → Hp → St → Rho → Rho → Hp → V → γ → Prop} {σ : St} {ρ : Rho} {F H : Hp} {Q : VK} {R : V → V → Hp → Prop}
    (sr : SR C.K F H σ ρ) (st : Stb RR) (p : PostE C RR σ ρ F H Q (m2 g ma mb ρ))
    (k : ∀ x y dx dy d ρ2 F2 H2, SR C.K F2 H2 σ ρ2 → Vw C.K F2 H2 x dx → Vw C.K F2 H2 y dy → g dx dy = some d → PostE C RR σ ρ2 F2 H2 Q (.ok d ρ2) → R x y H2) :
    tA C ma σ H fun x H1 => tA C mb σ H1 fun y H2 => R x y H2 :=
  one sr st p fun x a ρ1 F1 H1 s1 g1 r1 q1 => one s1 st q1 fun y b ρ2 F2 H2 s2 g2 r2 q2 => by
    obtain ⟨d, e, q⟩ := lift_some q2
    cases e1 : res1 ρ2 a with
    | none => rw [e1] at e; cases e
    | some dx =>
      cases e2 : res1 ρ2 b with
      | none => rw [e1, e2] at e; cases e
      | some dy =>
        rw [e1, e2] at e
        exact k x y dx dy d ρ2 F2 H2 s2 (rA.view (ρ0 := ρ) (H0 := H) s2 (rA.mono g2.ext r1) e1) (r2.view s2 e2) e q
/-- what an operation by values does, told by data -/
def OpD (X : Cx) (f : Value → Value → Sem Value) (g : PyData → PyData → Option PyData) : Prop :=
  ∀ (pins : List (Addr × Obj)) (s : Shared) (σ : St) (H : Hp) (x y : V) (v u : Value) (dx dy d : PyData) (Q : VK), Inv X pins σ H s → RelV x v → RelV y u → DV X.KW H x dx → DV X.KW H y dy → g dx dy = some d →
    (∀ w, atom d = some w → Q w H) → wpAny (model X.prog X.w) X.A (f v u) (EP X pins σ Q) X.xe s
/-- something new: as it is, a tuple, a list -/
inductive Alloc (K : Kw) (F H : Hp) : Hp → Hp → V → OD → Prop
  | asis {v : V} {d : PyData} : DV K F v d → Alloc K F H F H v (.sh d)
  | tup {p : Addr} {vs : List V} {ds : List PyData} : H p = none → DVs K F vs ds → Alloc K F H (upd F p (.tup vs)) (upd H p (.tup vs)) (.ref p) (.sh (.tuple ds))
  | lst {p : Addr} {vs : List V} {ds : List PyData} : H p = none → DVs K F vs ds → Alloc K F H F (upd H p (.lst vs)) (.ref p) (.ol ds)
theorem DVs.upd {K : Kw} {F : Hp} {p : Addr} {o : HO} {vs : List V} {ds : List PyData} (fp : F p = none) (h : DVs K F vs ds) : DVs K (L2.upd F p o) vs ds := DVs.mono (fun b u h => by rw [upd_ne (ne_of_none h fp)]; exact h) h
theorem Alloc.post {F H F' H' : Hp} {σ : St} {ρ : Rho} {v : V} {o : OD} {Q : VK} (s : SR C.K F H σ ρ) (h : Alloc C.K F H F' H' v o) (q : PostE C (rO C.K) σ ρ F H Q (.ok o ρ)) : Q v H' := by
  cases h with
  | asis h => exact q F H v Grow.refl s ⟨h, fun z => by cases z⟩
  | tup hp h =>
    have fp := s.sub.free hp
    exact q _ _ _ (Grow.laid hp fp) (s.laid hp) ⟨.tup (.inl (.inl upd_same)) (h.upd fp), fun z => by cases z⟩
  | @lst p vs ds hp h =>
    have fp := s.sub.free hp
    refine q _ _ _ (Grow.fresh hp) (s.fresh hp) ⟨⟨p, vs, rfl, fp, upd_same, h⟩, fun _ a e => ⟨fun z => ?_, .inl ?_⟩⟩
    · cases e
      obtain ⟨_, u, e2⟩ := own.at s z
      rw [hp] at e2; cases e2
    · cases e; exact hp
def OpO (X : Cx) (f : Value → Value → Sem Value) (g : PyData → PyData → Option OD) : Prop :=
  ∀ (pins : List (Addr × Obj)) (s : Shared) (σ : St) (F H : Hp) (x y : V) (v u : Value) (dx dy : PyData) (o : OD) (Q : VK), Inv X pins σ H s → RelV x v → RelV y u → Same F H → Vw X.KW F H x dx → Vw X.KW F H y dy → g dx dy = some o →
    (∀ F' H' w, Alloc X.KW F H F' H' w o → Q w H') → wpAny (model X.prog X.w) X.A (f v u) (EP X pins σ Q) X.xe s
theorem d_op {op : Operator} {g : PyData → PyData → Option PyData} {ma mb : M Arg} (ho : OpD X (binaryOp op) g) (ha : PE X a (tA C ma)) (hb : PE X b (tA C mb)) (hK : X.KW = C.K := by rfl) : PE X (.BinOp a op b pos) (tD C (m2 g ma mb)) := by
  refine ⟨fun pins s σ H Q I ⟨F, ρ, sr, p⟩ => ?_⟩
  refine wpAny_BinOp (binT ha hb (R := fun x y H2 => ∃ dx dy d ρ2 F2, SR C.K F2 H2 σ ρ2 ∧ Vw C.K F2 H2 x dx ∧ Vw C.K F2 H2 y dy ∧ g dx dy = some d ∧ PostE C (rD C.K) σ ρ2 F2 H2 Q (.ok d ρ2)) I (two sr stb_D p fun x y dx dy d ρ2 F2 H2 s2 r1 r2 e q => ⟨dx, dy, d, ρ2, F2, s2, r1, r2, e, q⟩)
    fun v u s2 x y H2 I2 rx ry ⟨dx, dy, d, ρ2, F2, s2', r1, r2, hg, q⟩ => ?_)
  exact ho pins s2 σ H2 x y v u dx dy d Q I2 rx ry (hK ▸ r1.dv s2'.sub) (hK ▸ r2.dv s2'.sub) hg fun w hw => q F2 H2 w Grow.refl s2' (atom_dv hw)
theorem d_cmp {op : CmpOp} {g : PyData → PyData → Option PyData} {ma mb : M Arg} (ho : OpD X (compareOp op) g) (ha : PE X a (tA C ma)) (hb : PE X b (tA C mb)) (hK : X.KW = C.K := by rfl)
    (h1 : behindInMarks op b = false := by first | exact nobehind _ (by decide) (by decide) | rfl) : PE X (.Compare a [op] [b] pos) (tD C (m2 g ma mb)) := by
  refine ⟨fun pins s σ H Q I ⟨F, ρ, sr, p⟩ => ?_⟩
  refine wpAny_Compare1 (binT ha hb (R := fun x y H2 => ∃ dx dy d ρ2 F2, SR C.K F2 H2 σ ρ2 ∧ Vw C.K F2 H2 x dx ∧ Vw C.K F2 H2 y dy ∧ g dx dy = some d ∧ PostE C (rD C.K) σ ρ2 F2 H2 Q (.ok d ρ2)) I (two sr stb_D p fun x y dx dy d ρ2 F2 H2 s2 r1 r2 e q => ⟨dx, dy, d, ρ2, F2, s2, r1, r2, e, q⟩)
    fun v u s2 x y H2 I2 rx ry ⟨dx, dy, d, ρ2, F2, s2', r1, r2, hg, q⟩ => ?_) h1
  exact ho pins s2 σ H2 x y v u dx dy d Q I2 rx ry (hK ▸ r1.dv s2'.sub) (hK ▸ r2.dv s2'.sub) hg fun w hw => q F2 H2 w Grow.refl s2' (atom_dv hw)
theorem o_op {op : Operator} {g : PyData → PyData → Option OD} {ma mb : M Arg} (ho : OpO X (binaryOp op) g) (ha : PE X a (tA C ma)) (hb : PE X b (tA C mb)) (hK : X.KW = C.K := by rfl) : PE X (.BinOp a op b pos) (tO C (m2 g ma mb)) := by
  refine ⟨fun pins s σ H Q I ⟨F, ρ, sr, p⟩ => ?_⟩
  refine wpAny_BinOp (binT ha hb (R := fun x y H2 => ∃ dx dy d ρ2 F2, SR C.K F2 H2 σ ρ2 ∧ Vw C.K F2 H2 x dx ∧ Vw C.K F2 H2 y dy ∧ g dx dy = some d ∧ PostE C (rO C.K) σ ρ2 F2 H2 Q (.ok d ρ2)) I (two sr stb_O p fun x y dx dy d ρ2 F2 H2 s2 r1 r2 e q => ⟨dx, dy, d, ρ2, F2, s2, r1, r2, e, q⟩)
    fun v u s2 x y H2 I2 rx ry ⟨dx, dy, d, ρ2, F2, s2', r1, r2, hg, q⟩ => ?_)
  exact ho pins s2 σ F2 H2 x y v u dx dy d Q I2 rx ry s2'.sub (hK ▸ r1) (hK ▸ r2) hg fun F' H' w h => Alloc.post s2' (hK ▸ h) q
end
end Eg
namespace Eg
open PySem L2 PySem.W PySem.SeqAt
/-! ## operators on data -/
mutual
theorem DV.plain {K : Kw} {H : Hp} : ∀ {v : V} {d : PyData}, DV K H v d → d.plain = true
  | _, _, .non => rfl
  | _, _, .bl b => rfl
  | _, _, .int i => rfl
  | _, _, .str x => rfl
  | _, _, .lst h1 h2 => by simp only [PyData.plain]; exact DVs.plain h2
  | _, _, .tup h1 h2 => by simp only [PyData.plain]; exact DVs.plain h2
theorem DVs.plain {K : Kw} {H : Hp} : ∀ {vs : List V} {ds : List PyData}, DVs K H vs ds → PyData.plainAll ds = true
  | _, _, .nil => rfl
  | _, _, .cons h1 h2 => by simp only [PyData.plainAll, DV.plain h1, DVs.plain h2, Bool.and_self]
end
mutual
theorem DV.noDict {K : Kw} {H : Hp} : ∀ {v : V} {d : PyData}, DV K H v d → d.hasDict = false
  | _, _, .non => rfl
  | _, _, .bl b => rfl
  | _, _, .int i => rfl
  | _, _, .str x => rfl
  | _, _, .lst h1 h2 => by simp only [PyData.hasDict]; exact DVs.noDict h2
  | _, _, .tup h1 h2 => by simp only [PyData.hasDict]; exact DVs.noDict h2
theorem DVs.noDict {K : Kw} {H : Hp} : ∀ {vs : List V} {ds : List PyData}, DVs K H vs ds → PyData.hasDictAll ds = false
  | _, _, .nil => rfl
  | _, _, .cons h1 h2 => by simp only [PyData.hasDictAll, DV.noDict h1, DVs.noDict h2, Bool.or_self]
end
/-- not too deep for the stack -/
def small (d : PyData) : Bool := decide (d.depth ≤ 60)
def isNon : PyData → Bool
  | .none => true
  | _ => false
def gSub : PyData → PyData → Option PyData
  | .int i, .int j => some (.int (i - j))
  | _, _ => none
def gMul : PyData → PyData → Option PyData
  | .int i, .int j => if (-(2 ^ 64) < i ∧ i < 2 ^ 64) ∨ (-(2 ^ 64) < j ∧ j < 2 ^ 64) then some (.int (i * j)) else none
  | _, _ => none
def gMod : PyData → PyData → Option PyData
  | .int i, .int j => if 0 < j then some (.int (i % j)) else none
  | _, _ => none
def gFloor : PyData → PyData → Option PyData
  | .int i, .int j => if 0 < j ∧ j < 1073741824 then some (.int (i / j)) else none
  | _, _ => none
def gPow : PyData → PyData → Option PyData
  | .int i, .int j => if 0 ≤ j ∧ j ≤ 1000000 ∧ i.natAbs < 2 ^ 64 then some (.int (i ^ j.toNat)) else none
  | _, _ => none
def gEq (x y : PyData) : Option PyData := if small x = true then some (.bool (PyData.eqv x y)) else none
def gNe (x y : PyData) : Option PyData := if small x = true then some (.bool (!PyData.eqv x y)) else none
def cmpOk (x y : PyData) : Bool := alike x y && !isNon x && small x
def gLt (x y : PyData) : Option PyData := if cmpOk x y = true then some (.bool (dataLt x y)) else none
def gGt (x y : PyData) : Option PyData := if cmpOk x y = true then some (.bool (dataLt y x)) else none
def gLe (x y : PyData) : Option PyData := if cmpOk x y = true then some (.bool (!dataLt y x)) else none
def gGe (x y : PyData) : Option PyData := if cmpOk x y = true then some (.bool (!dataLt x y)) else none
def gIn : PyData → PyData → Option PyData
  | x, .list ys => if small x = true then some (.bool (ys.any fun y => PyData.eqv y x)) else none
  | x, .tuple ys => if small x = true then some (.bool (ys.any fun y => PyData.eqv y x)) else none
  | _, _ => none
def gNotIn : PyData → PyData → Option PyData
  | x, .list ys => if small x = true then some (.bool (!ys.any fun y => PyData.eqv y x)) else none
  | x, .tuple ys => if small x = true then some (.bool (!ys.any fun y => PyData.eqv y x)) else none
  | _, _ => none
section
variable {X : Cx}
theorem room_small {A : Around} {x y : PyData} (h : small x = true) (hu : A.units + 64 < cLine) : A.units + min x.depth y.depth < cLine := by
  have h1 : x.depth ≤ 60 := of_decide_eq_true h
  have := Nat.min_le_left x.depth y.depth
  omega
theorem room_smallR {A : Around} {x : PyData} {n : Nat} (h : small x = true) (hu : A.units + 64 < cLine) : A.units + 1 + min n x.depth < cLine := by
  have h1 : x.depth ≤ 60 := of_decide_eq_true h
  have := Nat.min_le_right n x.depth
  omega
/-- from a rule by values on ints -/
theorem opd_int {f : Value → Value → Sem Value} {G : Int → Int → Prop} {r : Int → Int → V} {g : PyData → PyData → Option PyData} (ho : OpR X f (rI G r))
    (hg : ∀ x y d, g x y = some d → ∃ i j, x = .int i ∧ y = .int j ∧ G i j ∧ atom d = some (r i j)) : OpD X f g := by
  intro pins s σ H x y v u dx dy d Q I rx ry h1 h2 e q
  obtain ⟨i, j, rfl, rfl, hG, hd⟩ := hg dx dy d e
  cases h1
  cases h2
  exact ho pins s σ H _ _ v u Q I rx ry ⟨i, j, rfl, rfl, hG, q _ hd⟩
theorem od_sub : OpD X (binaryOp .Sub) gSub := by
  intro pins s σ H x y v u dx dy d Q I rx ry h1 h2 e q
  cases dx <;> cases dy <;> simp [gSub] at e
  subst e
  cases h1; cases h2
  exact op_sub pins s σ H _ _ v u Q I rx ry ⟨_, _, rfl, rfl, q _ rfl⟩
theorem od_mul : OpD X (binaryOp .Mult) gMul := opd_int op_mul fun x y d e => by
  cases x <;> cases y <;> simp only [gMul] at e <;> first | cases e | skip
  split at e <;> cases e
  rename_i h
  exact ⟨_, _, rfl, rfl, h, rfl⟩
theorem od_mod : OpD X (binaryOp .Mod) gMod := opd_int op_mod fun x y d e => by
  cases x <;> cases y <;> simp only [gMod] at e <;> first | cases e | skip
  split at e <;> cases e
  rename_i h
  exact ⟨_, _, rfl, rfl, h, rfl⟩
theorem od_floor : OpD X (binaryOp .FloorDiv) gFloor := opd_int op_fdiv fun x y d e => by
  cases x <;> cases y <;> simp only [gFloor] at e <;> first | cases e | skip
  split at e <;> cases e
  rename_i h
  exact ⟨_, _, rfl, rfl, h, rfl⟩
theorem od_pow : OpD X (binaryOp .Pow) gPow := opd_int op_pow fun x y d e => by
  cases x <;> cases y <;> simp only [gPow] at e <;> first | cases e | skip
  split at e <;> cases e
  rename_i h
  exact ⟨_, _, rfl, rfl, h, rfl⟩
section
variable {pins : List (Addr × Obj)} {σ : St} {H : Hp} {s : Shared}
theorem DV.reads (I : Inv X pins σ H s) {d : PyData} {v : V} {u : Value} (h : DV X.KW H v d) (r : RelV v u) : ∃ as, Reads s.heap u d as := L2.Dp.reads I d v u (DV.dp h) r
end
theorem od_eq (hu : X.A.units + 64 < cLine) : OpD X (compareOp .Eq) gEq := by
  intro pins s σ H x y v u dx dy d Q I rx ry h1 h2 e q
  unfold gEq at e
  split at e <;> cases e
  rename_i h
  obtain ⟨as, r1⟩ := h1.reads I rx
  obtain ⟨bs, r2⟩ := h2.reads I ry
  exact eq_plain r1 r2 h1.plain h2.plain (room_small h hu) ⟨.bl _, H, I, rfl, q _ rfl⟩
theorem od_ne (hu : X.A.units + 64 < cLine) : OpD X (compareOp .NotEq) gNe := by
  intro pins s σ H x y v u dx dy d Q I rx ry h1 h2 e q
  unfold gNe at e
  split at e <;> cases e
  rename_i h
  obtain ⟨as, r1⟩ := h1.reads I rx
  obtain ⟨bs, r2⟩ := h2.reads I ry
  exact ne_plain r1 r2 h1.plain h2.plain (room_small h hu) ⟨.bl _, H, I, rfl, q _ rfl⟩
theorem cmpOk_at {x y : PyData} (h : cmpOk x y = true) : alike x y = true ∧ x ≠ .none ∧ small x = true := by
  unfold cmpOk at h
  simp only [Bool.and_eq_true] at h
  refine ⟨h.1.1, fun z => ?_, h.2⟩
  subst z
  simp [isNon] at h
theorem od_lt (hu : X.A.units + 64 < cLine) : OpD X (compareOp .Lt) gLt := by
  intro pins s σ H x y v u dx dy d Q I rx ry h1 h2 e q
  unfold gLt at e
  split at e <;> cases e
  rename_i h
  obtain ⟨c1, c2, c3⟩ := cmpOk_at h
  obtain ⟨as, r1⟩ := h1.reads I rx
  obtain ⟨bs, r2⟩ := h2.reads I ry
  exact lt_data r1 r2 c1 c2 (room_small c3 hu) ⟨.bl _, H, I, rfl, q _ rfl⟩
theorem od_gt (hu : X.A.units + 64 < cLine) : OpD X (compareOp .Gt) gGt := by
  intro pins s σ H x y v u dx dy d Q I rx ry h1 h2 e q
  unfold gGt at e
  split at e <;> cases e
  rename_i h
  obtain ⟨c1, c2, c3⟩ := cmpOk_at h
  obtain ⟨as, r1⟩ := h1.reads I rx
  obtain ⟨bs, r2⟩ := h2.reads I ry
  exact gt_data r1 r2 c1 c2 (room_small c3 hu) ⟨.bl _, H, I, rfl, q _ rfl⟩
theorem od_le (hu : X.A.units + 64 < cLine) : OpD X (compareOp .LtE) gLe := by
  intro pins s σ H x y v u dx dy d Q I rx ry h1 h2 e q
  unfold gLe at e
  split at e <;> cases e
  rename_i h
  obtain ⟨c1, c2, c3⟩ := cmpOk_at h
  obtain ⟨as, r1⟩ := h1.reads I rx
  obtain ⟨bs, r2⟩ := h2.reads I ry
  exact le_data r1 r2 c1 c2 (room_small c3 hu) ⟨.bl _, H, I, rfl, q _ rfl⟩
theorem od_ge (hu : X.A.units + 64 < cLine) : OpD X (compareOp .GtE) gGe := by
  intro pins s σ H x y v u dx dy d Q I rx ry h1 h2 e q
  unfold gGe at e
  split at e <;> cases e
  rename_i h
  obtain ⟨c1, c2, c3⟩ := cmpOk_at h
  obtain ⟨as, r1⟩ := h1.reads I rx
  obtain ⟨bs, r2⟩ := h2.reads I ry
  exact ge_data r1 r2 c1 c2 (room_small c3 hu) ⟨.bl _, H, I, rfl, q _ rfl⟩
theorem od_in (hu : X.A.units + 64 < cLine) : OpD X (compareOp .In) gIn := by
  intro pins s σ H x y v u dx dy d Q I rx ry h1 h2 e q
  cases dy with
  | list ys =>
    simp only [gIn] at e
    split at e <;> cases e
    rename_i h
    obtain ⟨as, r1⟩ := h1.reads I rx
    obtain ⟨bs, r2⟩ := h2.reads I ry
    have pl := h2.plain
    simp only [PyData.plain] at pl
    exact in_list_data r2 r1 pl h1.plain (room_smallR h hu) ⟨.bl _, H, I, rfl, q _ rfl⟩
  | tuple ys =>
    simp only [gIn] at e
    split at e <;> cases e
    rename_i h
    obtain ⟨as, r1⟩ := h1.reads I rx
    obtain ⟨bs, r2⟩ := h2.reads I ry
    have pl := h2.plain
    simp only [PyData.plain] at pl
    exact in_tuple_data r2 r1 pl h1.plain (room_smallR h hu) ⟨.bl _, H, I, rfl, q _ rfl⟩
  | _ => cases e
theorem od_notIn (hu : X.A.units + 64 < cLine) : OpD X (compareOp .NotIn) gNotIn := by
  intro pins s σ H x y v u dx dy d Q I rx ry h1 h2 e q
  cases dy with
  | list ys =>
    simp only [gNotIn] at e
    split at e <;> cases e
    rename_i h
    obtain ⟨as, r1⟩ := h1.reads I rx
    obtain ⟨bs, r2⟩ := h2.reads I ry
    have pl := h2.plain
    simp only [PyData.plain] at pl
    exact notIn_list_data r2 r1 pl h1.plain (room_smallR h hu) ⟨.bl _, H, I, rfl, q _ rfl⟩
  | tuple ys =>
    simp only [gNotIn] at e
    split at e <;> cases e
    rename_i h
    obtain ⟨as, r1⟩ := h1.reads I rx
    obtain ⟨bs, r2⟩ := h2.reads I ry
    have pl := h2.plain
    simp only [PyData.plain] at pl
    exact notIn_tuple_data r2 r1 pl h1.plain (room_smallR h hu) ⟨.bl _, H, I, rfl, q _ rfl⟩
  | _ => cases e
end
end Eg
namespace Eg
open PySem L2 PySem.W PySem.SeqAt
section
variable {X : Cx} {C : Ct} {e a b : Expr} {es : List Expr} {pos : Pos}
/-! ## +, * -/
def aAdd : PyData → PyData → Option OD
  | .int i, .int j => some (.sh (.int (i + j)))
  | .str x, .str y => if x.length + y.length ≤ sizeLine then some (.sh (.str (x ++ y))) else none
  | .list xs, .list ys => if xs.length + ys.length ≤ sizeLine then some (.ol (xs ++ ys)) else none
  | .tuple xs, .tuple ys => if xs.length + ys.length ≤ sizeLine then some (.sh (.tuple (xs ++ ys))) else none
  | _, _ => none
theorem DVs.nil_iff {K : Kw} {H : Hp} {vs : List V} {ds : List PyData} (h : DVs K H vs ds) : vs = [] ↔ ds = [] := by
  cases h <;> simp
theorem ao_add : OpO X (binaryOp .Add) aAdd := by
  intro pins s σ F H x y v u dx dy o Q I rx ry sub h1 h2 e q
  cases dx with
  | int i =>
    cases dy <;> simp only [aAdd] at e <;> cases e
    cases h1; cases h2
    exact op_add pins s σ H _ _ v u Q I rx ry ⟨_, _, rfl, rfl, q _ _ _ (.asis (.int _))⟩
  | str i =>
    cases dy <;> simp only [aAdd] at e <;> first | cases e | skip
    split at e <;> cases e
    rename_i hz
    cases h1; cases h2
    exact op_add_str pins s σ H _ _ v u Q I rx ry ⟨_, _, rfl, rfl, hz, q _ _ _ (.asis (.str _))⟩
  | list xs =>
    cases dy <;> simp only [aAdd] at e <;> first | cases e | skip
    split at e <;> cases e
    rename_i hz
    obtain ⟨a1, vs, rfl, g1, k1⟩ := h1
    obtain ⟨a2, ws, rfl, g2, k2⟩ := h2
    exact op_cat pins s σ H _ _ v u Q I rx ry ⟨_, _, _, _, rfl, rfl, g1, g2, by rw [k1.len, k2.len]; exact hz, fun p hp => q _ _ _ (.lst hp (k1.append k2))⟩
  | tuple xs =>
    cases dy <;> simp only [aAdd] at e <;> first | cases e | skip
    split at e <;> cases e
    rename_i ys hz
    have h1' : DV X.KW F x (.tuple xs) := h1
    have h2' : DV X.KW F y (.tuple ys) := h2
    cases h1' with
    | tup g1 k1 =>
      cases h2' with
      | tup g2 k2 =>
        refine op_catA pins s σ H _ _ v u Q I rx ry ⟨_, _, _, _, rfl, rfl, sub.sqT g1, sub.sqT g2, by rw [k1.len, k2.len]; exact hz, fun z => ?_, fun z1 z2 => ?_, fun z1 z2 p hp => ?_⟩
        · have := k1.nil_iff.mp z
          subst this
          exact q _ _ _ (.asis (.tup g2 k2))
        · have := k2.nil_iff.mp z2
          subst this
          rw [List.append_nil] at q
          exact q _ _ _ (.asis (.tup g1 k1))
        · exact q _ _ _ (.tup hp (k1.append k2))
  | _ => cases dy <;> simp only [aAdd] at e <;> cases e
def aMul : PyData → PyData → Option OD
  | .int i, .int j => if (-(2 ^ 64) < i ∧ i < 2 ^ 64) ∨ (-(2 ^ 64) < j ∧ j < 2 ^ 64) then some (.sh (.int (i * j))) else none
  | .list xs, .int k => if -(2 ^ 63) ≤ k ∧ k < 2 ^ 63 ∧ xs.length * k.toNat ≤ sizeLine then some (.ol (List.replicate k.toNat xs).flatten) else none
  | _, _ => none
theorem DVs.rep {K : Kw} {H : Hp} {vs : List V} {ds : List PyData} (h : DVs K H vs ds) : ∀ n : Nat, DVs K H (List.replicate n vs).flatten (List.replicate n ds).flatten
  | 0 => .nil
  | n + 1 => by rw [List.replicate_succ, List.replicate_succ, List.flatten_cons, List.flatten_cons]; exact h.append (DVs.rep h n)
theorem ao_mul : OpO X (binaryOp .Mult) aMul := by
  intro pins s σ F H x y v u dx dy o Q I rx ry sub h1 h2 e q
  cases dx with
  | int i =>
    cases dy <;> simp only [aMul] at e <;> first | cases e | skip
    split at e <;> cases e
    rename_i hz
    cases h1; cases h2
    exact op_mul pins s σ H _ _ v u Q I rx ry ⟨_, _, rfl, rfl, hz, q _ _ _ (.asis (.int _))⟩
  | list xs =>
    cases dy <;> simp only [aMul] at e <;> first | cases e | skip
    split at e <;> cases e
    rename_i hz
    obtain ⟨a1, vs, rfl, g1, k1⟩ := h1
    cases h2
    exact op_rep pins s σ H _ _ v u Q I rx ry ⟨_, _, _, rfl, rfl, g1, hz.1, hz.2.1, by rw [k1.len]; exact hz.2.2, fun p hp => q _ _ _ (.lst hp (k1.rep _))⟩
  | _ => cases dy <;> simp only [aMul] at e <;> cases e
/-! ## argument lists -/
inductive rAs (K : Kw) (F : Hp) (σ : St) : List V → List Arg → Prop
  | nil : rAs K F σ [] []
  | dat {v : V} {d : PyData} {vs : List V} {as : List Arg} : DV K F v d → rAs K F σ vs as → rAs K F σ (v :: vs) (.dat d :: as)
  | slot {v : V} {i : Nat} {vs : List V} {as : List Arg} : σ[i]? = some (some v) → rAs K F σ vs as → rAs K F σ (v :: vs) (.slot i :: as)
theorem rAs.mono {K : Kw} {F F' : Hp} {σ : St} (e : Same F F') : ∀ {vs : List V} {as : List Arg}, rAs K F σ vs as → rAs K F' σ vs as
  | _, _, .nil => .nil
  | _, _, .dat h t => .dat (DV.mono e h) (rAs.mono e t)
  | _, _, .slot h t => .slot h (rAs.mono e t)
theorem rAs.len {K : Kw} {F : Hp} {σ : St} : ∀ {vs : List V} {as : List Arg}, rAs K F σ vs as → vs.length = as.length
  | _, _, .nil => rfl
  | _, _, .dat h t => by rw [List.length_cons, List.length_cons, rAs.len t]
  | _, _, .slot h t => by rw [List.length_cons, List.length_cons, rAs.len t]
def rL (K : Kw) : Hp → Hp → St → Rho → Rho → Hp → List V → List Arg → Prop := fun F' _ σ _ _ _ vs as => rAs K F' σ vs as
def tL (C : Ct) (m : M (List Arg)) : TA := fun σ H Q => ∃ F ρ, SR C.K F H σ ρ ∧ PostE C (rL C.K) σ ρ F H Q (m ρ)
theorem stb_L {K : Kw} : Stb (rL K) := fun _ _ _ _ _ _ _ _ _ _ _ _ _ r => r
def mNil : M (List Arg) := M.ret []
def mCons (ma : M Arg) (ms : M (List Arg)) : M (List Arg) := ma.bind fun a => ms.bind fun as => M.ret (a :: as)
theorem l_nil : PA X [] (tL C mNil) := ⟨fun pos pins s σ H Q I ⟨F, ρ, sr, p⟩ => pa_nil.run pos pins s σ H Q I (p F H [] Grow.refl sr .nil)⟩
theorem l_cons {ma : M Arg} {ms : M (List Arg)} (ha : PE X e (tA C ma)) (hr : PA X es (tL C ms)) (hs : starEach (e :: es) X.env = (false, eval e X.env) :: starEach es X.env := by rfl) : PA X (e :: es) (tL C (mCons ma ms)) := by
  refine ⟨fun pos pins s σ H Q I ⟨F, ρ, sr, p⟩ => (pa_cons ha hr hs).run pos pins s σ H Q I ?_⟩
  refine one sr stb_L p fun x a ρ1 F1 H1 s1 g1 r1 q1 => ?_
  refine ⟨F1, ρ1, s1, q1.part fun as ρ2 F2 H2 xs e2 q2 g2 s2 r2 => ?_⟩
  refine q2 F2 H2 (x :: xs) g2 s2 ?_
  cases a with
  | dat d => exact .dat (DV.mono g2.ext r1) r2
  | slot i => exact .slot r1 r2
def resL (ρ : Rho) : List Arg → Option (List PyData)
  | [] => some []
  | a :: as => do (← res1 ρ a) :: (← resL ρ as)
inductive Vws (K : Kw) (F H : Hp) : List V → List PyData → Prop
  | nil : Vws K F H [] []
  | cons {v : V} {d : PyData} {vs : List V} {ds : List PyData} : Vw K F H v d → Vws K F H vs ds → Vws K F H (v :: vs) (d :: ds)
theorem rAs.views {K : Kw} {F H : Hp} {σ : St} {ρ : Rho} (s : SR K F H σ ρ) : ∀ {vs : List V} {as : List Arg} {ds : List PyData}, rAs K F σ vs as → resL ρ as = some ds → Vws K F H vs ds
  | _, [], _, .nil, r => by cases r; exact .nil
  | _, _ :: as, _, .dat h t, r => by
    simp only [resL, res1] at r
    cases e : resL ρ as with
    | none => rw [e] at r; cases r
    | some ds =>
      rw [e] at r; cases r
      exact .cons (Vw.of h s.sub) (rAs.views s t e)
  | _, .slot i :: as, _, .slot h t, r => by
    simp only [resL] at r
    cases e0 : res1 ρ (.slot i) with
    | none => rw [e0] at r; cases r
    | some d =>
      cases e : resL ρ as with
      | none => rw [e0, e] at r; cases r
      | some ds =>
        rw [e0, e] at r; cases r
        exact .cons (rA.view (ρ0 := ρ) (H0 := H) s (a := .slot i) h e0) (rAs.views s t e)
def mL {γ : Type} (g : List PyData → Option γ) (ms : M (List Arg)) : M γ := ms.bind fun as => M.get.bind fun ρ => M.lift (do g (← resL ρ as))
theorem many {γ : Type} {ms : M (List Arg)} {g : List PyData → Option γ} {RR : Hp → Hp → St → Rho → Rho → Hp → V → γ → Prop} {σ : St} {ρ : Rho} {F H : Hp} {Q : VK} {R : List V → Hp → Prop}
    (sr : SR C.K F H σ ρ) (st : Stb RR) (p : PostE C RR σ ρ F H Q (mL g ms ρ))
    (k : ∀ xs ds d ρ2 F2 H2, SR C.K F2 H2 σ ρ2 → Vws C.K F2 H2 xs ds → g ds = some d → PostE C RR σ ρ2 F2 H2 Q (.ok d ρ2) → R xs H2) : tL C ms σ H R :=
  ⟨F, ρ, sr, p.part fun as ρ1 F1 H1 xs e1 q1 g1 s1 r1 => by
    have q1 := q1.on st g1
    obtain ⟨d, e, q⟩ := lift_some q1
    cases e2 : resL ρ1 as with
    | none => rw [e2] at e; cases e
    | some ds =>
      rw [e2] at e
      exact k xs ds d ρ1 F1 H1 s1 (rAs.views s1 r1 e2) e q⟩
/-- a call of a builtin by values, told by data -/
def CallO (X : Cx) (f : Value) (g : List PyData → Option OD) : Prop :=
  ∀ (pins : List (Addr × Obj)) (s : Shared) (σ : St) (F H : Hp) (xs : List V) (us : List Value) (ds : List PyData) (o : OD) (Q : VK), Inv X pins σ H s → Vals xs us → Same F H → Vws X.KW F H xs ds → g ds = some o →
    (∀ F' H' w, Alloc X.KW F H F' H' w o → Q w H') → wpAny (model X.prog X.w) X.A (call f us) (EP X pins σ Q) X.xe s
/-- from a rule by values -/
theorem callO_of {f : Value} {r : List V → Hp → VK → Prop} {g : List PyData → Option OD} (hc : CallR X f r)
    (h : ∀ F H xs ds o Q, Same F H → Vws X.KW F H xs ds → g ds = some o → (∀ F' H' w, Alloc X.KW F H F' H' w o → Q w H') → r xs H Q) : CallO X f g :=
  fun pins s σ F H xs us ds o Q I r sub vw e q => hc pins s σ H xs us Q I r (h F H xs ds o Q sub vw e q)
theorem o_call {id : String} {x : Str} {p : Pos} {g : List PyData → Option OD} {ms : M (List Arg)} (hc : CallO X (.builtin id) g) (hg : Gl X x) (hm : X.mg x = none) (hv : bootBuiltins x = some (.builtin id)) (ha : PA X (e :: es) (tL C ms)) (hn : x ≠ "__name__" := by decide) (hdb : (x == ("__debug__" : Str)) = false := by decide)
    (he : starEach (e :: es) X.env = (false, eval e X.env) :: starEach es X.env := by rfl) (hpl : (backTo pos (starEach es X.env)).any (·.1) = false := by rfl) (hK : X.KW = C.K := by rfl) : PE X (.Call (.Name x p) (e :: es) [] pos) (tO C (mL g ms)) := by
  refine ⟨fun pins s σ H Q I ⟨F, ρ, sr, pp⟩ => ?_⟩
  refine wpAny_Call_Name_kw (ld_blt I hg hm hv ?_ hn hdb)
  refine PyProof.Rows.callWith_builtin1 (thn (ha.run pos pins s σ H (fun xs H2 => ∃ ds d ρ2 F2, SR C.K F2 H2 σ ρ2 ∧ Vws C.K F2 H2 xs ds ∧ g ds = some d ∧ PostE C (rO C.K) σ ρ2 F2 H2 Q (.ok d ρ2)) I (many sr stb_O pp fun xs ds d ρ2 F2 H2 s2 vw e q => ⟨ds, d, ρ2, F2, s2, vw, e, q⟩))
    fun us s1 ⟨vs, H1, I1, r1, ds, d, ρ2, F2, s2, vw, e, q⟩ => ?_) he hpl
  exact hc pins s1 σ F2 H1 vs us ds d Q I1 r1 s2.sub (hK ▸ vw) e fun F' H' w h => Alloc.post s2 (hK ▸ h) q
theorem o_callTy {T : String} {x : Str} {p : Pos} {g : List PyData → Option OD} {ms : M (List Arg)} (hc : CallO X (.type T) g) (hg : Gl X x) (hm : X.mg x = none) (hv : bootBuiltins x = some (.type T)) (ha : PA X (e :: es) (tL C ms)) (hn : x ≠ "__name__" := by decide) (hdb : (x == ("__debug__" : Str)) = false := by decide)
    (he : starEach (e :: es) X.env = (false, eval e X.env) :: starEach es X.env := by rfl) (hpl : (backTo pos (starEach es X.env)).any (·.1) = false := by rfl) (hK : X.KW = C.K := by rfl) : PE X (.Call (.Name x p) (e :: es) [] pos) (tO C (mL g ms)) := by
  refine ⟨fun pins s σ H Q I ⟨F, ρ, sr, pp⟩ => ?_⟩
  refine wpAny_Call_Name_kw (ld_blt I hg hm hv ?_ hn hdb)
  refine PyProof.Rows.callWith_type1 (thn (ha.run pos pins s σ H (fun xs H2 => ∃ ds d ρ2 F2, SR C.K F2 H2 σ ρ2 ∧ Vws C.K F2 H2 xs ds ∧ g ds = some d ∧ PostE C (rO C.K) σ ρ2 F2 H2 Q (.ok d ρ2)) I (many sr stb_O pp fun xs ds d ρ2 F2 H2 s2 vw e q => ⟨ds, d, ρ2, F2, s2, vw, e, q⟩))
    fun us s1 ⟨vs, H1, I1, r1, ds, d, ρ2, F2, s2, vw, e, q⟩ => ?_) he hpl
  exact hc pins s1 σ F2 H1 vs us ds d Q I1 r1 s2.sub (hK ▸ vw) e fun F' H' w h => Alloc.post s2 (hK ▸ h) q
/-! ## displays -/
/-- arguments that are kept: all of them fixed -/
def fixL : List Arg → Option (List PyData)
  | [] => some []
  | .dat d :: as => (fixL as).map (d :: ·)
  | .slot _ :: _ => none
theorem rAs.fixed {K : Kw} {F : Hp} {σ : St} : ∀ {vs : List V} {as : List Arg} {ds : List PyData}, rAs K F σ vs as → fixL as = some ds → DVs K F vs ds
  | _, [], _, .nil, r => by cases r; exact .nil
  | _, _ :: as, _, .dat h t, r => by
    simp only [fixL] at r
    cases e : fixL as with
    | none => rw [e] at r; cases r
    | some ds => rw [e] at r; cases r; exact .cons h (rAs.fixed t e)
  | _, _, _, .slot _ _, r => by cases r
def mFix {γ : Type} (g : List PyData → Option γ) (ms : M (List Arg)) : M γ := ms.bind fun as => M.lift (do g (← fixL as))
def tupG (ds : List PyData) : Option PyData := if ds.length ≤ sizeLine then some (.tuple ds) else none
def lstG (ds : List PyData) : Option OD := if ds.length ≤ sizeLine then some (.ol ds) else none
theorem d_tup {x1} {ms : M (List Arg)} (h : PA X es (tL C ms)) : PE X (.Tuple es x1 pos) (tD C (mFix tupG ms)) := by
  refine (pe_tup h).imp fun σ H Q ⟨F, ρ, sr, p⟩ => ?_
  refine ⟨F, ρ, sr, p.part fun as ρ1 F1 H1 xs e1 q1 g1 s1 r1 => ?_⟩
  obtain ⟨d, e, q⟩ := lift_some q1
  cases e2 : fixL as with
  | none => rw [e2] at e; cases e
  | some ds =>
    rw [e2] at e
    have r2 := r1.fixed e2
    simp only [tupG, Option.bind_eq_bind, Option.bind_some] at e
    split at e <;> cases e
    rename_i hz
    refine ⟨by rw [r2.len]; exact hz, fun p hp => ?_⟩
    have fp := s1.sub.free hp
    exact q _ _ _ (g1.trans (Grow.laid hp fp)) (s1.laid hp) (.tup (.inl (.inl upd_same)) (r2.upd fp))
theorem o_lst {ms : M (List Arg)} (h : PA X es (tL C ms)) : PE X (.List es pos) (tO C (mFix lstG ms)) := by
  refine (pe_lst h).imp fun σ H Q ⟨F, ρ, sr, p⟩ => ?_
  refine ⟨F, ρ, sr, p.part fun as ρ1 F1 H1 xs e1 q1 g1 s1 r1 => ?_⟩
  have q1 := q1.on stb_O g1
  obtain ⟨d, e, q⟩ := lift_some q1
  cases e2 : fixL as with
  | none => rw [e2] at e; cases e
  | some ds =>
    rw [e2] at e
    have r2 := r1.fixed e2
    simp only [lstG, Option.bind_eq_bind, Option.bind_some] at e
    split at e <;> cases e
    rename_i hz
    exact ⟨by rw [r2.len]; exact hz, fun p hp => Alloc.post s1 (.lst hp r2) q⟩
/-! ## subscripts -/
def gIx : PyData → PyData → Option PyData
  | .list ds, .int i => atI ds i
  | .tuple ds, .int i => atI ds i
  | .str z, .int i => if z.length ≤ sizeLine then (atI z.cps.toList i).map fun c => .str ⟨#[c]⟩ else none
  | _, _ => none
theorem DVs.atI {K : Kw} {H : Hp} {vs : List V} {ds : List PyData} {i : Int} {d : PyData} (h : DVs K H vs ds) (e : L2.atI ds i = some d) : ∃ v, L2.atI vs i = some v ∧ DV K H v d := by
  unfold L2.atI at e ⊢
  rw [h.len]
  cases q : ixN ds.length i with
  | none => rw [q] at e; cases e
  | some j => rw [q] at e; exact h.get e
theorem d_ix {ma mb : M Arg} (ha : PE X a (tA C ma)) (hb : PE X b (tA C mb)) (hs : PlainIx b) (hK : X.KW = C.K := by rfl) : PE X (.Subscript a b pos) (tD C (m2 gIx ma mb)) := by
  refine (pe_ix ix_seq ha hb hs).imp fun σ H Q ⟨F, ρ, sr, p⟩ => ?_
  refine two sr stb_D p fun x y dx dy d ρ2 F2 H2 s2 r1 r2 e q => ?_
  rw [show X.K = C.K.fr from congrArg Kw.fr hK]
  cases dx with
  | list ds =>
    cases dy <;> simp only [gIx] at e <;> first | cases e | skip
    obtain ⟨p, vs, rfl, h1, h2⟩ := r1
    cases r2
    obtain ⟨w, e1, h3⟩ := h2.atI e
    exact .inl ⟨_, _, _, w, rfl, rfl, SqL.of h1, e1, q F2 H2 w Grow.refl s2 h3⟩
  | tuple ds =>
    cases dy <;> simp only [gIx] at e <;> first | cases e | skip
    have r1' : DV C.K F2 x (.tuple ds) := r1
    cases r1' with
    | tup h1 h2 =>
      cases r2
      obtain ⟨w, e1, h3⟩ := h2.atI e
      exact .inr (.inl ⟨_, _, _, w, rfl, rfl, s2.sub.sqT h1, e1, q F2 H2 w Grow.refl s2 h3⟩)
  | str z =>
    cases dy <;> simp only [gIx] at e <;> first | cases e | skip
    split at e <;> try cases e
    rename_i i hz
    cases r1; cases r2
    cases e2 : L2.atI z.cps.toList i with
    | none => rw [e2] at e; cases e
    | some c =>
      rw [e2] at e; cases e
      exact .inr (.inr ⟨_, _, c, rfl, rfl, hz, e2, q F2 H2 _ Grow.refl s2 (.str _)⟩)
  | _ => cases dy <;> simp only [gIx] at e <;> cases e
end
end Eg
namespace Eg
open PySem L2 PySem.W PySem.SeqAt
section
variable {X : Cx} {C : Ct} {e a b : Expr} {es : List Expr} {pos p2 : Pos}
/-! ## slices -/
def tPt (C : Ct) (m : M (Option Int)) : TO := fun σ H Q => ∃ F ρ, SR C.K F H σ ρ ∧ PostE (β := Option Int) C (fun _ _ _ _ _ _ v d => v = d) σ ρ F H Q (m ρ)
theorem stb_T {β : Type} : Stb (fun (_ _ : Hp) (_ : St) (_ _ : Rho) (_ : Hp) (v d : β) => v = d) := fun _ _ _ _ _ _ _ _ _ _ _ _ _ r => r
def asInt : PyData → M Int
  | .int i => M.ret i
  | _ => M.bad
theorem pt_none : PO X none (tPt C (M.ret none)) := ⟨fun pins s σ H Q I ⟨F, ρ, sr, p⟩ => po_none.run pins s σ H Q I (p F H none Grow.refl sr rfl)⟩
theorem pt_some {m : M PyData} (h : PE X e (tD C m)) : PO X (some e) (tPt C (m.bind fun d => (asInt d).bind fun i => M.ret (some i))) :=
  ⟨fun pins s σ H Q I ⟨F, ρ, sr, p⟩ => (po_some h).run pins s σ H Q I ⟨F, ρ, sr, p.part fun d ρ1 F1 H1 x e1 q1 g1 s1 r1 => by
    have q1 := q1.on stb_T g1
    cases d with
    | int i => cases r1; exact ⟨i, rfl, q1 F1 H1 _ Grow.refl s1 rfl⟩
    | _ => exact q1.elim⟩⟩
def cutD (xs : List PyData) (lo hi : Option Int) : List PyData := (xs.drop (HT.sIx xs.length 0 lo)).take (HT.sIx xs.length xs.length hi - HT.sIx xs.length 0 lo)
theorem DVs.cut {K : Kw} {H : Hp} {vs : List V} {ds : List PyData} (h : DVs K H vs ds) (lo hi : Option Int) : DVs K H (cutV vs lo hi) (cutD ds lo hi) := by
  unfold cutV cutD
  rw [h.len]
  exact (h.drop _).take _
def gSl (d : PyData) (lo hi : Option Int) : Option OD := match d with
  | .list ds => some (.ol (cutD ds lo hi))
  | .tuple ds => some (.sh (.tuple (cutD ds lo hi)))
  | .str z => if z.length ≤ sizeLine then some (.sh (.str (cutS z lo hi))) else none
  | _ => none
def mSl (ma : M Arg) (ml mh : M (Option Int)) : M OD := ma.bind fun a => ml.bind fun l => mh.bind fun h => M.get.bind fun ρ => M.lift (do gSl (← res1 ρ a) l h)
theorem cutD_whole {ds : List PyData} {lo hi : Option Int} (h : HT.sIx ds.length 0 lo = 0 ∧ HT.sIx ds.length ds.length hi = ds.length) : cutD ds lo hi = ds := by
  unfold cutD
  rw [h.1, h.2, List.drop_zero, Nat.sub_zero, List.take_length]
theorem o_sl {lo hi : Option Expr} {ma : M Arg} {ml mh : M (Option Int)} (ha : PE X a (tA C ma)) (hl : PO X lo (tPt C ml)) (hh : PO X hi (tPt C mh)) (hK : X.KW = C.K := by rfl) :
    PE X (.Subscript a (.Slice lo hi none p2) pos) (tO C (mSl ma ml mh)) := by
  refine (pe_slice (sl_list.or (sl_tupA.or sl_str)) ha hl hh).imp fun σ H Q ⟨F, ρ, sr, p⟩ => ?_
  refine one sr stb_O p fun x a ρ1 F1 H1 s1 g1 r1 q1 => ?_
  refine ⟨F1, ρ1, s1, q1.part fun l ρ2 F2 H2 _ e2 q2 g2 s2 r2 => ?_⟩
  subst r2
  have q2 := q2.on stb_O g2
  refine ⟨F2, ρ2, s2, q2.part fun h ρ3 F3 H3 _ e3 q3 g3 s3 r3 => ?_⟩
  subst r3
  have q3 := q3.on stb_O g3
  obtain ⟨o, eo, q⟩ := lift_some q3
  cases ea : res1 ρ3 a with
  | none => rw [ea] at eo; cases eo
  | some d =>
    rw [ea] at eo
    have vw := rA.view (ρ0 := ρ) (H0 := H) s3 (rA.mono (ρ' := ρ3) (ρ0' := ρ) (H0' := H) (g2.trans g3).ext r1) ea
    rw [show X.K = C.K.fr from congrArg Kw.fr hK]
    cases d with
    | list ds =>
      cases eo
      obtain ⟨p, vs, rfl, h1, h2⟩ := vw
      exact .inl ⟨p, vs, rfl, SqL.of h1, fun p hp => Alloc.post s3 (.lst hp (h2.cut _ _)) q⟩
    | tuple ds =>
      cases eo
      have vw' : DV C.K F3 x (.tuple ds) := vw
      cases vw' with
      | tup h1 h2 =>
        refine .inr (.inl ⟨_, _, rfl, s3.sub.sqT h1, fun z => ?_, fun _ p hp => Alloc.post s3 (.tup hp (h2.cut _ _)) q⟩)
        rw [h2.len] at z
        rw [cutD_whole z] at q
        exact Alloc.post s3 (.asis (.tup h1 h2)) q
    | str z =>
      simp only [gSl, Option.bind_eq_bind, Option.bind_some] at eo
      split at eo <;> cases eo
      rename_i hz
      cases vw
      exact .inr (.inr ⟨z, rfl, hz, Alloc.post s3 (.asis (.str _)) q⟩)
    | _ => cases eo
/-- xs[::-1] of a list -/
def gRev : PyData → Option OD
  | .list ds => some (.ol ds.reverse)
  | _ => none
theorem o_rev {k : Nat} {p1 p3 : Pos} {ma : M Arg} (ha : PE X a (tA C ma)) (hK : X.KW = C.K := by rfl) : PE X (.Subscript a (.Slice none none (some (.UnaryOp .USub (.Constant (.int 1) k p1) p2)) p3) pos) (tO C (m1 gRev ma)) := by
  refine (pe_revL ha).imp fun σ H Q ⟨F, ρ, sr, p⟩ => ?_
  refine one sr stb_O p fun x a ρ1 F1 H1 s1 g1 r1 q1 => ?_
  obtain ⟨o, eo, q⟩ := lift_some q1
  cases ea : res1 ρ1 a with
  | none => rw [ea] at eo; cases eo
  | some d =>
    rw [ea] at eo
    have vw := rA.view (ρ0 := ρ) (H0 := H) s1 r1 ea
    cases d with
    | list ds =>
      cases eo
      obtain ⟨p, vs, rfl, h1, h2⟩ := vw
      exact ⟨p, vs, rfl, SqL.of h1, fun p hp => Alloc.post s1 (.lst hp h2.rev) q⟩
    | _ => cases eo
/-- a slice of the script -/
def mScr (i : Nat) (ml mh : M (Option Int)) : M OD := fun ρ => match ρ[i]? with
  | some (some (.sc ns)) => (ml.bind fun l => mh.bind fun h => M.ret (.ol (cutD (ns.map .int) l h))) ρ
  | _ => .bad
theorem dvs_ints {K : Kw} {H : Hp} : ∀ ns : List Int, DVs K H (ns.map V.int) (ns.map .int)
  | [] => .nil
  | n :: ns => .cons (.int n) (dvs_ints ns)
theorem o_scr {i : Nat} {lo hi : Option Expr} {ml mh : M (Option Int)} (ha : PE X a (tVar i)) (hl : PO X lo (tPt C ml)) (hh : PO X hi (tPt C mh)) (hK : X.KW = C.K := by rfl) :
    PE X (.Subscript a (.Slice lo hi none p2) pos) (tO C (mScr i ml mh)) := by
  refine (pe_slice sl_list ha hl hh).imp fun σ H Q ⟨F, ρ, sr, p⟩ => ?_
  unfold mScr at p
  cases q : ρ[i]? with
  | none => rw [q] at p; exact p.elim
  | some o =>
    rw [q] at p
    cases o with
    | none => exact p.elim
    | some o =>
      cases o with
      | sc ns =>
        obtain ⟨v, hv, a, rfl, hs⟩ := sr.sl i _ q
        refine ⟨_, hv, F, ρ, sr, p.part fun l ρ1 F1 H1 _ e1 q1 g1 s1 r1 => ?_⟩
        subst r1
        have q1 := q1.on stb_O g1
        refine ⟨F1, ρ1, s1, q1.part fun h ρ2 F2 H2 _ e2 q2 g2 s2 r2 => ?_⟩
        subst r2
        have q2 := q2.on stb_O g2
        rw [show X.K = C.K.fr from congrArg Kw.fr hK]
        exact ⟨a, _, rfl, s2.sub.seq ((g1.trans g2).ext.seq hs), fun p hp => Alloc.post s2 (.lst hp ((dvs_ints (K := C.K) (H := F2) ns).cut _ _)) q2⟩
      | _ => exact p.elim
/-! ## builtins -/
def gLen : List PyData → Option OD
  | [.list ds] => some (.sh (.int ds.length))
  | [.tuple ds] => some (.sh (.int ds.length))
  | [.str z] => if z.length ≤ sizeLine then some (.sh (.int z.length)) else none
  | _ => none
theorem co_len : CallO X (.builtin "len") gLen := callO_of call_len fun F H xs ds o Q sub vw e q => by
  cases vw with
  | nil => cases e
  | cons h t =>
    cases t with
    | cons _ _ => rename_i d _ _ _ _ _ _; cases d <;> cases e
    | nil =>
      rename_i x d
      cases d with
      | list ds =>
        cases e
        obtain ⟨p, vs, rfl, h1, h2⟩ := h
        exact ⟨_, _, rfl, .inl ⟨vs, SqL.of h1, rfl⟩, by rw [h2.len]; exact q _ _ _ (.asis (.int _))⟩
      | tuple ds =>
        cases e
        have h' : DV X.KW F x (.tuple ds) := h
        cases h' with
        | tup h1 h2 => exact ⟨_, _, rfl, .inr ⟨_, sub.sqT h1, rfl⟩, by rw [h2.len]; exact q _ _ _ (.asis (.int _))⟩
      | str z =>
        simp only [gLen] at e
        split at e <;> cases e
        rename_i hz
        cases h
        exact ⟨_, _, rfl, ⟨hz, rfl⟩, q _ _ _ (.asis (.int _))⟩
      | _ => cases e
def gList : List PyData → Option OD
  | [.list ds] => some (.ol ds)
  | [.tuple ds] => some (.ol ds)
  | _ => none
theorem co_list : CallO X (.type "list") gList := callO_of call_list_of fun F H xs ds o Q sub vw e q => by
  cases vw with
  | nil => cases e
  | cons h t =>
    cases t with
    | cons _ _ => rename_i d _ _ _ _ _ _; cases d <;> cases e
    | nil =>
      rename_i x d
      cases d with
      | list ds =>
        cases e
        obtain ⟨p, vs, rfl, h1, h2⟩ := h
        exact ⟨_, _, rfl, .inl (SqL.of h1), fun p hp => q _ _ _ (.lst hp h2)⟩
      | tuple ds =>
        cases e
        have h' : DV X.KW F x (.tuple ds) := h
        cases h' with
        | tup h1 h2 => exact ⟨_, _, rfl, .inr (sub.sqT h1), fun p hp => q _ _ _ (.lst hp h2)⟩
      | _ => cases e
def gTuple : List PyData → Option OD
  | [.list ds] => some (.sh (.tuple ds))
  | [.tuple ds] => some (.sh (.tuple ds))
  | _ => none
theorem co_tuple : CallO X (.type "tuple") gTuple := callO_of call_tuple_of fun F H xs ds o Q sub vw e q => by
  cases vw with
  | nil => cases e
  | cons h t =>
    cases t with
    | cons _ _ => rename_i d _ _ _ _ _ _; cases d <;> cases e
    | nil =>
      rename_i x d
      cases d with
      | list ds =>
        cases e
        obtain ⟨p, vs, rfl, h1, h2⟩ := h
        exact ⟨_, _, rfl, .inl ⟨SqL.of h1, fun p hp => q _ _ _ (.tup hp h2)⟩⟩
      | tuple ds =>
        cases e
        have h' : DV X.KW F x (.tuple ds) := h
        cases h' with
        | tup h1 h2 => exact ⟨_, _, rfl, .inr ⟨sub.sqT h1, q _ _ _ (.asis (.tup h1 h2))⟩⟩
      | _ => cases e
def gInt : List PyData → Option OD
  | [.int i] => some (.sh (.int i))
  | [.bool b] => some (.sh (.int (if b then 1 else 0)))
  | _ => none
theorem co_int : CallO X (.type "int") gInt := callO_of call_int1 fun F H xs ds o Q sub vw e q => by
  cases vw with
  | nil => cases e
  | cons h t =>
    cases t with
    | cons _ _ => rename_i d _ _ _ _ _ _; cases d <;> cases e
    | nil =>
      rename_i x d
      cases d with
      | int i => cases e; cases h; exact .inl ⟨i, rfl, q _ _ _ (.asis (.int _))⟩
      | bool i => cases e; cases h; exact .inr ⟨i, rfl, q _ _ _ (.asis (.int _))⟩
      | _ => cases e
def gRepr : List PyData → Option OD
  | [d] => if d.showable = true ∧ d.shown.length ≤ sizeLine ∧ small d = true then some (.sh (.str d.shown)) else none
  | _ => none
theorem co_repr (hg : X.A.guards = some []) (hu : X.A.units + 64 < cLine) : CallO X (.builtin "repr") gRepr := by
  intro pins s σ F H xs us ds o Q I r sub vw e q
  cases vw with
  | nil => cases e
  | cons h t =>
    cases t with
    | cons _ _ => cases e
    | nil =>
      rename_i x d
      simp only [gRepr] at e
      split at e <;> cases e
      rename_i hz
      obtain ⟨z1, z2, z3⟩ := hz
      obtain ⟨u, rfl, ru⟩ := vals1 r
      have dv := h.dv sub
      obtain ⟨as, rd⟩ := dv.reads I ru
      have hd : d.depth ≤ 60 := of_decide_eq_true z3
      have fin : ∀ s' : Shared, Inv X pins σ H s' → ∀ t, EP X pins σ Q (.str d.shown t) s' := fun s' I' t => ⟨.str d.shown, H, I', ⟨t, rfl⟩, q _ _ _ (.asis (.str _))⟩
      cases d with
      | none => cases dv; cases ru; simp only [PyData.shown] at fin; exact P.repr_of_none (fin _ (I.tok _) _)
      | bool b => cases dv; cases ru; simp only [PyData.shown] at fin; exact P.repr_of_bool (fin _ (I.tok _) _)
      | int i => cases dv; obtain ⟨t, rfl⟩ := ru; simp only [PyData.shown] at fin; exact P.repr_of_int (by simpa [PyData.showable] using z1) (fin _ (I.tok _) _)
      | str i => cases dv; obtain ⟨t, rfl⟩ := ru; simp only [PyData.shown] at fin z2; exact P.repr_of_str (fin _ (I.tok _) _) z2
      | list ds =>
        cases dv with
        | lst h1 h2 => cases ru; exact repr_of_reads' rd z1 (fun z => by have := (DV.lst h1 h2).noDict; rw [this] at z; cases z) hg (by omega) (fun _ _ z => z) (fun h' u tk k => fin _ (I.kept k) u) z2
      | tuple ds =>
        cases dv with
        | tup h1 h2 => cases ru; exact repr_of_reads' rd z1 (fun z => by have := (DV.tup h1 h2).noDict; rw [this] at z; cases z) hg (by omega) (fun _ _ z => z) (fun h' u tk k => fin _ (I.kept k) u) z2
      | dict _ => cases dv
end
end Eg
namespace Eg
open PySem L2 PySem.W PySem.SeqAt PySem.Spec PyProof.Rows
section
variable {A : Around} {s : Shared} {prog : Program} {w : World} {E : Value → Shared → Prop}
/-- the items of a tuple, gathered -/
theorem coll_tup {t : Addr} {vs : List Value} {Q : List Value → Shared → Prop} (ht : IsTup s.heap t vs.toArray) (hz : vs.length ≤ sizeLine)
    (h : Q vs { s with heap := (s.heap.push (seqObj "list" #[] 0)).update s.heap.objs.size (Obj.mapSeq (· ++ vs.toArray)) }) : wpAny (model prog w) A (collect (.ref t)) Q E s := by
  obtain ⟨ob, hob, hcl, nn, hdt⟩ := id ht
  unfold collect
  refine wpAny_bind (wpAny_runValue (codeAny_builtin PyProof.Rows.entry_proto_collect' ?_))
  show wpAny _ _ (do again (.builtin "list.__iadd__" ⟨[← newList [], .ref t], []⟩)) _ _ s
  refine wpAny_bind (wpAny_newList (wpAny_pure ⟨Code.quiet_builtin _ (by decide +kernel), codeAny_builtin PyProof.Rows.entry_list_iadd' ?_⟩))
  have hob' : (s.heap.push (seqObj "list" #[] 0)).get? t = some ob := Heap.get?_push_of_some _ hob
  show wpAny _ _ (Builtin.List.listExtendWith (.ref s.heap.objs.size) (.ref t) (.ref s.heap.objs.size)) _ _ { s with heap := s.heap.push (seqObj "list" #[] 0) }
  delta Builtin.List.listExtendWith
  refine wpAny_bind (wpAny_typeOf (T := "tuple") ⟨ob, hob', hcl⟩ ?_)
  rw [if_pos (by rw [show (Value.type "tuple" == Value.type "tuple") = true by rfl]; simp)]
  refine wpAny_bind (PyProof.Rows.listItems_at hob' hdt (wpAny_bind (PyProof.Rows.listItems_at (xs := #[]) (n := 0) (Heap.get?_push_size _ rfl) rfl ?_)))
  rw [if_neg (by simp)]
  refine wpAny_bind (PyProof.Rows.listUpdate_at (xs := #[]) (n := 0) (Heap.get?_push_size _ rfl) rfl (wpAny_pure ?_) (Nat.zero_le _) (by show (#[] ++ vs.toArray).size ≤ sizeLine + 1; simp only [Array.size_append, List.size_toArray, List.length_nil]; omega))
  show wpAny _ A (load s.heap.objs.size >>= _) Q E _
  refine wpAny_bind (wpAny_load (PyProof.Rows.get?_update_seq (Heap.get?_push_size _ rfl) _) ?_)
  have e0 : ((#[] : Array Value) ++ vs.toArray).toList = vs := by simp
  show wpAny (model prog w) A (pure ((#[] : Array Value) ++ vs.toArray).toList) Q E _
  rw [e0]
  exact wpAny_pure h
/-- sorted(t) of a tuple -/
theorem sorted_tupv {κ : PyProof.Rows.KeyKind} {t : Addr} {vs : List Value} {Q : Value → Shared → Prop} (ht : IsTup s.heap t vs.toArray) (S : SortsAt prog w A.in1.in1 { s with heap := sortingHeap (copyHeap s.heap vs) (s.heap.objs.size + 1) vs } κ vs) (hz : vs.length ≤ sizeLine)
    (h : Q (.ref (s.heap.objs.size + 1)) { s with heap := sortedAll s.heap vs (sortVals κ false vs vs).toArray }) : wpAny (model prog w) A (call (.builtin "sorted") [.ref t]) Q E s := by
  have sz : ((s.heap.push (seqObj "list" #[] 0)).update s.heap.objs.size (Obj.mapSeq (· ++ vs.toArray))).objs.size = s.heap.objs.size + 1 := by rw [Heap.size_update, PyProof.Rows.size_push']
  refine call_function_entry_kw kind_sorted plain_sorted entry_sorted (args_sorted1 _) ?_
  unfold Builtin.«sorted»
  refine wpAny_bind (m := checkCount "sorted" 1 1 _) (wpAny_pure (wpAny_bind (coll_tup ht hz (wpAny_bind (wpAny_newList ?_ hz)))))
  show wpAny (model prog w) _ _ _ _ { s with heap := copyHeap s.heap vs }
  rw [sz]
  refine wpAny_bind (wpAny_holding (wpAny_call_entry_kw slot_list_sort ⟨_, copyHeap_at s.heap vs, rfl⟩ entry_list_sort ?go (args_list_sort _)))
  case go =>
    show wpAny (model prog w) A.in1.in1 (Builtin.«list.sort» ⟨[.ref (s.heap.objs.size + 1)], []⟩) _ _ _
    exact list_sort_vals (s := { s with heap := copyHeap s.heap vs }) (copyHeap_at s.heap vs) S hz ⟨_, rfl, wpAny_pure ⟨_, rfl, h⟩⟩
end
/-! ## sorted -/
def alikeB (ds : List PyData) : Bool := ds.all fun d => ds.all fun e => alike d e
def isTup1 : PyData → Bool
  | .tuple (_ :: _) => true
  | _ => false
def noTup : PyData → Bool
  | .tuple _ => false
  | .none => false
  | _ => true
def sortOk (ds : List PyData) : Bool := alikeB ds && (ds.all isTup1 || ds.all noTup) && ds.all small && decide (ds.length ≤ sizeLine)
def sortD (ds : List PyData) : List PyData := ds.mergeSort (dataLe false id)
def gSorted : List PyData → Option OD
  | [.list ds] => if sortOk ds = true then some (.ol (sortD ds)) else none
  | [.tuple ds] => if sortOk ds = true then some (.ol (sortD ds)) else none
  | _ => none
theorem sortOk_at {ds : List PyData} (h : sortOk ds = true) : AllAlike ds ∧ Sortable ds ∧ (∀ d, d ∈ ds → d.depth ≤ 60) ∧ ds.length ≤ sizeLine := by
  unfold sortOk at h
  simp only [Bool.and_eq_true, Bool.or_eq_true, List.all_eq_true, decide_eq_true_eq, alikeB] at h
  obtain ⟨⟨⟨h1, h2⟩, h3⟩, h4⟩ := h
  refine ⟨fun d hd d' hd' => h1 d hd d' hd', ?_, fun d hd => of_decide_eq_true (h3 d hd), h4⟩
  rcases h2 with h2 | h2
  · refine .inl fun d hd => ?_
    have := h2 d hd
    cases d with
    | tuple xs => cases xs with
      | nil => cases this
      | cons x r => exact ⟨x, r, rfl⟩
    | _ => cases this
  · refine .inr fun d hd => ?_
    have := h2 d hd
    cases d <;> first | (cases this; done) | exact ⟨fun z => (by cases z), fun _ z => by cases z⟩
section
variable {X : Cx} {K : Kw} {pins : List (Addr × Obj)} {σ : L2.St} {H : Hp} {s : Shared}
theorem dvs_each {F : Hp} : ∀ {vs : List V} {us : List Value} {ds : List PyData}, DVs K F vs ds → Vals vs us → EachIs (fun v d => ∃ x, RelV x v ∧ DV K F x d) us ds
  | _, _, _, .nil, .nil => .nil
  | _, _, _, .cons h t, .cons r q => .cons ⟨_, r, h⟩ (dvs_each t q)
theorem each_dvs {F : Hp} : ∀ {us : List Value} {ds : List PyData}, EachIs (fun v d => ∃ x, RelV x v ∧ DV K F x d) us ds → ∃ vs, DVs K F vs ds ∧ Vals vs us
  | _, _, .nil => ⟨[], .nil, .nil⟩
  | _, _, .cons ⟨x, r, h⟩ t => by
    obtain ⟨vs, h2, r2⟩ := each_dvs t
    exact ⟨x :: vs, .cons h h2, .cons r r2⟩
theorem co_sorted (hu : X.A.units + 64 < cLine) : CallO X (.builtin "sorted") gSorted := by
  intro pins s σ F H xs us ds o Q I r sub vw e q
  cases vw with
  | nil => cases e
  | cons h t =>
    cases t with
    | cons _ _ => rename_i d _ _ _ _ _ _; cases d <;> cases e
    | nil =>
      rename_i x d
      obtain ⟨u, rfl, ru⟩ := vals1 r
      have core : ∀ (es : List PyData) (vs : List V) (its : List Value), sortOk es = true → some (OD.ol (sortD es)) = some o → DVs X.KW F vs es → Vals vs its →
          (∀ out : List Value, out.length = es.length → EachIs (fun v d => ∃ x, RelV x v ∧ DV X.KW F x d) out (sortD es) → EP X pins σ Q (.ref (s.heap.objs.size + 1)) { s with heap := sortedAll s.heap its out.toArray }) ∧
          EachIs (fun v d => ∃ x, RelV x v ∧ DV X.KW F x d) its es ∧ EachIs (fun v d => ∃ as, Reads s.heap v d as) its es := fun es vs its ok eo dv rv => by
        have ea := dvs_each dv rv
        refine ⟨fun out hl eo' => ?_, ea, ea.mono fun v d ⟨x, r, h⟩ => (DV.mono sub h).reads I r⟩
        obtain ⟨ws, d2, r2⟩ := each_dvs eo'
        obtain ⟨ep, he'⟩ := PyProof.Rows.sortedAll_at s.heap its out.toArray
        obtain ⟨_, _, _, z4⟩ := sortOk_at ok
        have hn : H (s.heap.objs.size + 1) = none := I.hok.fresh (Nat.le_succ _)
        cases eo
        exact ⟨.ref _, upd H (s.heap.objs.size + 1) (.lst ws), I.laid (t' := s.toks) (fun _ _ => PyProof.Rows.sortedAll_old) (Nat.le_succ _) ⟨by rw [r2.length, hl]; exact z4, out, ep, r2, he'⟩, rfl, q _ _ _ (.lst hn d2)⟩
      cases d with
      | list es =>
        simp only [gSorted] at e
        split at e <;> try cases e
        rename_i ok
        obtain ⟨p, vs, rfl, h1, h2⟩ := h
        cases ru
        obtain ⟨its, rv, pl, _⟩ := I.list (SqL.of h1)
        obtain ⟨c1, c2, c3⟩ := core es vs its ok rfl h2 rv
        obtain ⟨z1, z2, z3, z4⟩ := sortOk_at ok
        exact sorted_data (enc := id) (bs := es) pl.isList c2 c3 (by simpa using z1) (by simpa using z2) z4 (fun b hb => by have := z3 b hb; show X.A.units + 2 + b.depth < cLine; omega) c1
      | tuple es =>
        simp only [gSorted] at e
        split at e <;> try cases e
        rename_i ok
        have h' : DV X.KW F x (.tuple es) := h
        cases h' with
        | tup h1 h2 =>
          cases ru
          obtain ⟨its, rv, pl, _⟩ := I.tuple (sub.sqT h1)
          obtain ⟨c1, c2, c3⟩ := core es _ its ok rfl h2 rv
          obtain ⟨z1, z2, z3, z4⟩ := sortOk_at ok
          have er' : EachIs (fun v d => ∃ as, Reads (sortingHeap (copyHeap s.heap its) (s.heap.objs.size + 1) its) v d as) its es := c3.mono fun _ _ ⟨as, r⟩ => ⟨as, PyProof.Rows.Reads.keeps (fun _ _ => sorting_copy_old) r⟩
          refine sorted_tupv pl (SortsAt.data (s := { s with heap := sortingHeap (copyHeap s.heap its) (s.heap.objs.size + 1) its }) er' z1 z2 fun d hd => ?_) (by rw [← rv.length, h2.len]; exact z4) ?_
          · have := z3 d hd
            show X.A.units + 1 + 1 + d.depth < cLine
            omega
          · refine c1 _ ?_ ?_
            · rw [sortVals_length false rfl, ← rv.length, h2.len]
            · have := sortVals_data (enc := id) (bs := es) false c2 (by simpa using er') (by simpa using z1)
              simpa [sortD] using this
      | _ => cases e
end
end Eg
namespace Eg
open PySem L2 PySem.W PySem.SeqAt PySem.Spec PyProof.Rows
section
variable {A : Around} {s : Shared} {prog : Program} {w : World} {E : Value → Shared → Prop}
theorem best1 (bt : Nat → Nat → Bool) : argBest bt 1 = if bt 1 0 = true then 1 else 0 := rfl
theorem alike_two {x y : PyData} (h1 : alike y x = true) (hx : x ≠ .none) (hy : y ≠ .none) (a1 : alike x x = true) (a2 : alike y y = true) (a3 : alike x y = true) : AlikeAll [x, y] := by
  refine ⟨fun d hd e he => ?_, fun d hd => ?_⟩
  · simp only [List.mem_cons, List.not_mem_nil, or_false] at hd he
    rcases hd with rfl | rfl <;> rcases he with rfl | rfl <;> assumption
  · simp only [List.mem_cons, List.not_mem_nil, or_false] at hd
    rcases hd with rfl | rfl <;> assumption
/-- min(a, b) by data -/
theorem min2D {a b : Value} {x y : PyData} {as bs : List Addr} {Q : Value → Shared → Prop} (hh : A.handled = none) (ra : Reads s.heap a x as) (rb : Reads s.heap b y bs) (al : AlikeAll [x, y]) (hu : A.units + 1 + PyData.depthAll [x, y] < cLine)
    (h : ∀ h' tk, (∀ c o, s.heap.get? c = some o → h'.get? c = some o) → Q (if dataLt y x = true then b else a) { s with heap := h', toks := tk }) : wpAny (model prog w) A (call (.builtin "min") [a, b]) Q E s := by
  have nm : (toString "min" ++ toString ".loop" : String) = "min.loop" := by decide
  refine call_function_tree (F.kind_min) F.plain_min F.entry_min (F.args_min2 _ _) ?_
  show wpAny _ A.in1 (Builtin.Builtins.bindParams "min" ["key", "default"] 0 ⟨[], []⟩ >>= fun _ => _) _ _ s
  refine wpAny_bind (wpAny_of_eq (show Builtin.Builtins.bindParams "min" ["key", "default"] 0 ⟨[], []⟩ = pure [none, none] from rfl) (wpAny_bind (wpAny_newObj_type ?_)))
  generalize hS : ({ s with heap := s.heap.push { cls := .type "tuple", data := .seq [a, b].toArray } } : Shared) = s1
  have k1 : ∀ c o, s.heap.get? c = some o → s1.heap.get? c = some o := fun c o e => by rw [← hS]; exact Heap.get?_push_of_some _ e
  have hT : s1.heap.IsTuple s.heap.objs.size #[a, b] := by rw [← hS]; exact ⟨_, Heap.get?_push_size _ rfl, rfl, 0, rfl⟩
  have rd : ReadsAll s1.heap (#[a, b] : Array Value).toList [x, y] _ := .cons (Reads.keeps k1 ra) (.cons (Reads.keeps k1 rb) .nil)
  refine wpAny_bind (iter_tupleW (A := A.in1) hh hT fun s2 e2 W st hfp hw hk => ?_)
  refine wpAny_bind (wpAny_newObj_type ?_)
  rw [nm]
  refine wpAny_pure ⟨plainId_quiet F.plain_min_loop _, codeAny_min_loop_firstH W s1.heap hw _ (cmpIn_lt (A := A.in1) rd al (by show A.units + 1 + _ < _; exact hu)) s2.heap.objs.size (fun z => Nat.lt_irrefl _ (hfp _ z)) (fresh_in hk) _ (by simp)
    (fun c o e => Heap.get?_push_of_some _ (hk c o e)) (W.frame 0 s2 _ s2.toks st (Nat.le_refl _) fun c _ o e => Heap.get?_push_of_some _ e) (Heap.get?_push_size _ rfl) fun v s' hP hm => ?_⟩
  obtain ⟨h', tk, rfl, hk'⟩ := moved_old e2 rfl (Moved.drop_new (tk := s2.toks) hm (Nat.le_refl _))
  have hv : v = if dataLt y x = true then b else a := by
    have hP' : (#[a, b] : Array Value)[argBest (fun i j => dataLt ([x, y].getD i .none) ([x, y].getD j .none)) 1]? = some v := hP
    rw [best1] at hP'
    simp only [List.getD_cons_zero, List.getD_cons_succ] at hP'
    cases q : dataLt y x with
    | true => rw [q] at hP'; simpa using hP'.symm
    | false => rw [q] at hP'; simpa using hP'.symm
  rw [hv]
  have := h h' tk (fun c o e => hk' c o (k1 c o e))
  rw [← hS]
  exact this
theorem max2D {a b : Value} {x y : PyData} {as bs : List Addr} {Q : Value → Shared → Prop} (hh : A.handled = none) (ra : Reads s.heap a x as) (rb : Reads s.heap b y bs) (al : AlikeAll [x, y]) (hu : A.units + 1 + PyData.depthAll [x, y] < cLine)
    (h : ∀ h' tk, (∀ c o, s.heap.get? c = some o → h'.get? c = some o) → Q (if dataLt x y = true then b else a) { s with heap := h', toks := tk }) : wpAny (model prog w) A (call (.builtin "max") [a, b]) Q E s := by
  have nm : (toString "max" ++ toString ".loop" : String) = "max.loop" := by decide
  refine call_function_tree (F.kind_max) F.plain_max F.entry_max (F.args_max2 _ _) ?_
  show wpAny _ A.in1 (Builtin.Builtins.bindParams "max" ["key", "default"] 0 ⟨[], []⟩ >>= fun _ => _) _ _ s
  refine wpAny_bind (wpAny_of_eq (show Builtin.Builtins.bindParams "max" ["key", "default"] 0 ⟨[], []⟩ = pure [none, none] from rfl) (wpAny_bind (wpAny_newObj_type ?_)))
  generalize hS : ({ s with heap := s.heap.push { cls := .type "tuple", data := .seq [a, b].toArray } } : Shared) = s1
  have k1 : ∀ c o, s.heap.get? c = some o → s1.heap.get? c = some o := fun c o e => by rw [← hS]; exact Heap.get?_push_of_some _ e
  have hT : s1.heap.IsTuple s.heap.objs.size #[a, b] := by rw [← hS]; exact ⟨_, Heap.get?_push_size _ rfl, rfl, 0, rfl⟩
  have rd : ReadsAll s1.heap (#[a, b] : Array Value).toList [x, y] _ := .cons (Reads.keeps k1 ra) (.cons (Reads.keeps k1 rb) .nil)
  refine wpAny_bind (iter_tupleW (A := A.in1) hh hT fun s2 e2 W st hfp hw hk => ?_)
  refine wpAny_bind (wpAny_newObj_type ?_)
  rw [nm]
  refine wpAny_pure ⟨plainId_quiet F.plain_max_loop _, codeAny_max_loop_firstH W s1.heap hw _ (cmpIn_gt (A := A.in1) rd al (by show A.units + 1 + _ < _; exact hu)) s2.heap.objs.size (fun z => Nat.lt_irrefl _ (hfp _ z)) (fresh_in hk) _ (by simp)
    (fun c o e => Heap.get?_push_of_some _ (hk c o e)) (W.frame 0 s2 _ s2.toks st (Nat.le_refl _) fun c _ o e => Heap.get?_push_of_some _ e) (Heap.get?_push_size _ rfl) fun v s' hP hm => ?_⟩
  obtain ⟨h', tk, rfl, hk'⟩ := moved_old e2 rfl (Moved.drop_new (tk := s2.toks) hm (Nat.le_refl _))
  have hv : v = if dataLt x y = true then b else a := by
    have hP' : (#[a, b] : Array Value)[argBest (fun i j => dataLt ([x, y].getD j .none) ([x, y].getD i .none)) 1]? = some v := hP
    rw [best1] at hP'
    simp only [List.getD_cons_zero, List.getD_cons_succ] at hP'
    cases q : dataLt x y with
    | true => rw [q] at hP'; simpa using hP'.symm
    | false => rw [q] at hP'; simpa using hP'.symm
  rw [hv]
  have := h h' tk (fun c o e => hk' c o (k1 c o e))
  rw [← hS]
  exact this
end
def pairOk (x y : PyData) : Bool := alike x y && alike y x && alike x x && alike y y && !isNon x && !isNon y && small x && small y
def isLst : PyData → Bool
  | .list _ => true
  | _ => false
def gMin : List PyData → Option OD
  | [x, y] => if pairOk x y = true ∧ isLst x = false ∧ isLst y = false then some (.sh (if dataLt y x = true then y else x)) else none
  | _ => none
def gMax : List PyData → Option OD
  | [x, y] => if pairOk x y = true ∧ isLst x = false ∧ isLst y = false then some (.sh (if dataLt x y = true then y else x)) else none
  | _ => none
theorem pairOk_at {x y : PyData} (h : pairOk x y = true) : AlikeAll [x, y] ∧ PyData.depthAll [x, y] ≤ 60 := by
  unfold pairOk at h
  simp only [Bool.and_eq_true, Bool.not_eq_true'] at h
  obtain ⟨⟨⟨⟨⟨⟨⟨h1, h2⟩, h3⟩, h4⟩, h5⟩, h6⟩, h7⟩, h8⟩ := h
  have n5 : x ≠ .none := fun z => by subst z; cases h5
  have n6 : y ≠ .none := fun z => by subst z; cases h6
  refine ⟨alike_two h2 n5 n6 h3 h4 h1, ?_⟩
  have d1 : x.depth ≤ 60 := of_decide_eq_true h7
  have d2 : y.depth ≤ 60 := of_decide_eq_true h8
  simp only [PyData.depthAll]
  omega
section
variable {X : Cx}
theorem Vw.noLst {K : Kw} {F H : Hp} {v : V} {d : PyData} (h : Vw K F H v d) (n : isLst d = false) : DV K F v d := by
  cases d with
  | list _ => cases n
  | _ => exact h
theorem co_min (hc : X.calm = true) (hu : X.A.units + 64 < cLine) : CallO X (.builtin "min") gMin := by
  intro pins s σ F H xs us ds o Q I r sub vw e q
  match ds, vw, e with
  | [x, y], .cons (v := v1) h1 (.cons (v := v2) h2 .nil), e =>
    simp only [gMin] at e
    split at e <;> cases e
    rename_i hz
    obtain ⟨z1, z2, z3⟩ := hz
    obtain ⟨al, dp⟩ := pairOk_at z1
    obtain ⟨u1, u2, rfl, r1, r2⟩ := vals2 r
    have d1 := h1.noLst z2
    have d2 := h2.noLst z3
    obtain ⟨as, rd1⟩ := (DV.mono sub d1).reads I r1
    obtain ⟨bs, rd2⟩ := (DV.mono sub d2).reads I r2
    refine min2D (I.ok.hd hc) rd1 rd2 al (by omega) fun h' tk k => ?_
    cases q0 : dataLt y x with
    | true => rw [q0] at q; exact ⟨v2, H, I.kept k, r2, q _ _ _ (.asis d2)⟩
    | false => rw [q0] at q; exact ⟨v1, H, I.kept k, r1, q _ _ _ (.asis d1)⟩
theorem co_max (hc : X.calm = true) (hu : X.A.units + 64 < cLine) : CallO X (.builtin "max") gMax := by
  intro pins s σ F H xs us ds o Q I r sub vw e q
  match ds, vw, e with
  | [x, y], .cons (v := v1) h1 (.cons (v := v2) h2 .nil), e =>
    simp only [gMax] at e
    split at e <;> cases e
    rename_i hz
    obtain ⟨z1, z2, z3⟩ := hz
    obtain ⟨al, dp⟩ := pairOk_at z1
    obtain ⟨u1, u2, rfl, r1, r2⟩ := vals2 r
    have d1 := h1.noLst z2
    have d2 := h2.noLst z3
    obtain ⟨as, rd1⟩ := (DV.mono sub d1).reads I r1
    obtain ⟨bs, rd2⟩ := (DV.mono sub d2).reads I r2
    refine max2D (I.ok.hd hc) rd1 rd2 al (by omega) fun h' tk k => ?_
    cases q0 : dataLt x y with
    | true => rw [q0] at q; exact ⟨v2, H, I.kept k, r2, q _ _ _ (.asis d2)⟩
    | false => rw [q0] at q; exact ⟨v1, H, I.kept k, r1, q _ _ _ (.asis d1)⟩
end
end Eg
namespace Eg
open PySem L2 PySem.W PySem.SeqAt
section
variable {X : Cx} {C : Ct} {e a b c : Expr} {es : List Expr} {pos apos cpos : Pos}
/-! ## tests -/
theorem _root_.L2.PT.imp {t t' : TT} (h : PT X e t) (i : ∀ σ H Q, t' σ H Q → t σ H Q) : PT X e t' := ⟨fun pins s σ H Q I q => h.run pins s σ H Q I (i _ _ _ q)⟩
theorem _root_.L2.PW.imp {t t' : TT} (h : PW X e t) (i : ∀ σ H Q, t' σ H Q → t σ H Q) : PW X e t' := ⟨fun w pins s σ H Q I q => h.run w pins s σ H Q I (i _ _ _ q)⟩
def asBool : PyData → M Bool
  | .bool b => M.ret b
  | _ => M.bad
theorem asBool_post {β : Type} {σ : St} {ρ ρ0 : Rho} {F H : Hp} {Q : Bool → Hp → Prop} {d : PyData} {v : V} {K : Kw} (sr : SR C.K F H σ ρ) (h : DV K F v d) (p : PostE (β := Bool) C (fun _ _ _ _ _ _ v d => v = d) σ ρ F H Q (asBool d ρ)) : ∃ k, v = .bl k ∧ Q k H := by
  cases d with
  | bool b => cases h; exact ⟨b, rfl, p F H b Grow.refl sr rfl⟩
  | _ => exact p.elim
theorem t_of_d {m : M PyData} (h : PE X e (tD C m)) (he : ∀ whole, isTrue e X.env whole = (do let v ← whole; standAt e.pos; holding [v] (truthy v)) := by intro _; rfl) : PT X e (tT C (m.bind asBool)) :=
  (pt_val h he).imp fun σ H Q ⟨F, ρ, sr, p⟩ => ⟨F, ρ, sr, p.part fun d ρ1 F1 H1 x e1 q1 g1 s1 r1 => asBool_post (β := Bool) (ρ0 := ρ) s1 r1 (q1.on stb_T g1)⟩
/-- a comparison's rule, by values -/
def rOp (K : Kw) (g : PyData → PyData → Option PyData) : R2 := fun x y H Q => ∃ dx dy d, DV K H x dx ∧ DV K H y dy ∧ g dx dy = some d ∧ ∀ w, atom d = some w → Q w H
theorem opR_of {f : Value → Value → Sem Value} {g : PyData → PyData → Option PyData} (ho : OpD X f g) : OpR X f (rOp X.KW g) :=
  fun pins s σ H x y v u Q I rx ry ⟨dx, dy, d, h1, h2, e, q⟩ => ho pins s σ H x y v u dx dy d Q I rx ry h1 h2 e q
theorem t_cmp {op : CmpOp} {g : PyData → PyData → Option PyData} {ma mb : M Arg} (ho : OpD X (compareOp op) g) (ha : PE X a (tA C ma)) (hb : PE X b (tA C mb)) (hK : X.KW = C.K := by rfl)
    (hm : behindInMarks op b = false := by first | exact nobehind _ (by decide) (by decide) | rfl) : PT X (.Compare a [op] [b] pos) (tT C ((m2 g ma mb).bind asBool)) := by
  refine (pt_cmpR (opR_of ho) ha hb hm).imp fun σ H Q ⟨F, ρ, sr, p⟩ => ?_
  have p' : PostE C (rD C.K) σ ρ F H (fun x H' => ∃ k, x = V.bl k ∧ Q k H') (m2 g ma mb ρ) := p.part fun d ρ1 F1 H1 x e1 q1 g1 s1 r1 => asBool_post (β := Bool) (ρ0 := ρ) s1 r1 (q1.on stb_T g1)
  exact two sr stb_D p' fun x y dx dy d ρ2 F2 H2 s2 r1 r2 e q => by
    rw [hK]
    exact ⟨dx, dy, d, r1.dv s2.sub, r2.dv s2.sub, e, fun w hw => q F2 H2 w Grow.refl s2 (atom_dv hw)⟩
def mAnd (ma mb : M Bool) : M Bool := ma.bind fun b => if b = true then mb else M.ret false
def mOr (ma mb : M Bool) : M Bool := ma.bind fun b => if b = true then M.ret true else mb
theorem w_one1 {ma : M Bool} (ha : PT X a (tT C ma)) : PW X (.BoolOp .And [a] pos) (tT C ma) := pw_and1 ha
theorem w_one2 {ma : M Bool} (ha : PT X a (tT C ma)) : PW X (.BoolOp .Or [a] pos) (tT C ma) := pw_or1 ha
theorem w_and {ma mb : M Bool} (ha : PT X a (tT C ma)) (hb : PW X (.BoolOp .And (b :: es) pos) (tT C mb)) : PW X (.BoolOp .And (a :: b :: es) pos) (tT C (mAnd ma mb)) :=
  (pw_and ha hb).imp fun σ H Q ⟨F, ρ, sr, p⟩ => ⟨F, ρ, sr, p.part fun k ρ1 F1 H1 x e1 q1 g1 s1 r1 => by
    subst r1
    have q1 := q1.on stb_T g1
    cases x with
    | true => exact ⟨F1, ρ1, s1, q1⟩
    | false => exact q1 F1 H1 false Grow.refl s1 rfl⟩
theorem w_or {ma mb : M Bool} (ha : PT X a (tT C ma)) (hb : PW X (.BoolOp .Or (b :: es) pos) (tT C mb)) : PW X (.BoolOp .Or (a :: b :: es) pos) (tT C (mOr ma mb)) :=
  (pw_or ha hb).imp fun σ H Q ⟨F, ρ, sr, p⟩ => ⟨F, ρ, sr, p.part fun k ρ1 F1 H1 x e1 q1 g1 s1 r1 => by
    subst r1
    have q1 := q1.on stb_T g1
    cases x with
    | false => exact ⟨F1, ρ1, s1, q1⟩
    | true => exact q1 F1 H1 true Grow.refl s1 rfl⟩
theorem t_w {m : M Bool} (h : PW X e (tT C m)) : PT X e (tT C m) := h.pt
def mNot (ma : M Bool) : M Bool := ma.bind fun b => M.ret (!b)
theorem t_not {ma : M Bool} (ha : PT X a (tT C ma)) : PT X (.UnaryOp .Not a pos) (tT C (mNot ma)) :=
  (pt_not ha).imp fun σ H Q ⟨F, ρ, sr, p⟩ => ⟨F, ρ, sr, p.part fun k ρ1 F1 H1 x e1 q1 g1 s1 r1 => by subst r1; exact q1 F1 H1 _ g1 s1 rfl⟩
/-- as values: truths -/
def mAndV (ma mb : M PyData) : M PyData := ma.bind fun d => (asBool d).bind fun b => if b = true then mb else M.ret (.bool false)
def mOrV (ma mb : M PyData) : M PyData := ma.bind fun d => (asBool d).bind fun b => if b = true then M.ret (.bool true) else mb
def mNotV (ma : M PyData) : M PyData := ma.bind fun d => (asBool d).bind fun b => M.ret (.bool (!b))
theorem d_one {op : BoolOp} {m : M PyData} (h : PE X a (tD C m)) : PE X (.BoolOp op [a] pos) (tD C m) := pe_one h
theorem d_and {ma mb : M PyData} (ha : PE X a (tD C ma)) (hb : PE X (.BoolOp .And (b :: es) pos) (tD C mb)) : PE X (.BoolOp .And (a :: b :: es) pos) (tD C (mAndV ma mb)) :=
  (pe_and ha hb).imp fun σ H Q ⟨F, ρ, sr, p⟩ => ⟨F, ρ, sr, p.part fun d ρ1 F1 H1 x e1 q1 g1 s1 r1 => by
    have q1 := q1.on stb_D g1
    cases d with
    | bool k =>
      cases r1
      refine ⟨k, rfl, ?_⟩
      cases k with
      | true => exact ⟨F1, ρ1, s1, q1⟩
      | false => exact q1 F1 H1 _ Grow.refl s1 (.bl false)
    | _ => exact q1.elim⟩
theorem d_or {ma mb : M PyData} (ha : PE X a (tD C ma)) (hb : PE X (.BoolOp .Or (b :: es) pos) (tD C mb)) : PE X (.BoolOp .Or (a :: b :: es) pos) (tD C (mOrV ma mb)) :=
  (pe_or ha hb).imp fun σ H Q ⟨F, ρ, sr, p⟩ => ⟨F, ρ, sr, p.part fun d ρ1 F1 H1 x e1 q1 g1 s1 r1 => by
    have q1 := q1.on stb_D g1
    cases d with
    | bool k =>
      cases r1
      refine ⟨k, rfl, ?_⟩
      cases k with
      | false => exact ⟨F1, ρ1, s1, q1⟩
      | true => exact q1 F1 H1 _ Grow.refl s1 (.bl true)
    | _ => exact q1.elim⟩
theorem d_not {ma : M PyData} (ha : PE X a (tD C ma)) : PE X (.UnaryOp .Not a pos) (tD C (mNotV ma)) :=
  (pe_not ha).imp fun σ H Q ⟨F, ρ, sr, p⟩ => ⟨F, ρ, sr, p.part fun d ρ1 F1 H1 x e1 q1 g1 s1 r1 => by
    have q1 := q1.on stb_D g1
    cases d with
    | bool k => cases r1; exact ⟨k, rfl, q1 F1 H1 _ Grow.refl s1 (.bl _)⟩
    | _ => exact q1.elim⟩
/-- is None -/
def gIsN (d : PyData) : Option PyData := some (.bool (isNon d))
def gNotN (d : PyData) : Option PyData := some (.bool (!isNon d))
theorem vw_non {K : Kw} {F H : Hp} {v : V} {d : PyData} (h : Vw K F H v d) : decide (v = .non) = isNon d := by
  cases d with
  | list ds => obtain ⟨p, vs, rfl, _, _⟩ := h; rfl
  | _ => cases h <;> rfl
theorem one1 {ma : M Arg} {g : PyData → Option PyData} {σ : St} {ρ : Rho} {F H : Hp} {Q : VK} {R : V → Hp → Prop} (sr : SR C.K F H σ ρ) (p : PostE C (rD C.K) σ ρ F H Q (m1 g ma ρ))
    (k : ∀ x dx d ρ2 F2 H2, SR C.K F2 H2 σ ρ2 → Vw C.K F2 H2 x dx → g dx = some d → PostE C (rD C.K) σ ρ2 F2 H2 Q (.ok d ρ2) → R x H2) : tA C ma σ H R :=
  one sr stb_D p fun x a ρ1 F1 H1 s1 g1 r1 q1 => by
    obtain ⟨o, eo, q⟩ := lift_some q1
    cases ea : res1 ρ1 a with
    | none => rw [ea] at eo; cases eo
    | some d => rw [ea] at eo; exact k x d o ρ1 F1 H1 s1 (rA.view (ρ0 := ρ) (H0 := H) s1 r1 ea) eo q
theorem d_isN {j pos'} {ma : M Arg} (ha : PE X a (tA C ma)) : PE X (.Compare a [.Is] [.Constant .none j pos'] pos) (tD C (m1 gIsN ma)) :=
  (pe_cmp (pc_isN ha) rfl).imp fun σ H Q ⟨F, ρ, sr, p⟩ => one1 sr p fun x dx d ρ2 F2 H2 s2 r e q => by cases e; rw [vw_non r]; exact q F2 H2 _ Grow.refl s2 (.bl _)
theorem d_notN {j pos'} {ma : M Arg} (ha : PE X a (tA C ma)) : PE X (.Compare a [.IsNot] [.Constant .none j pos'] pos) (tD C (m1 gNotN ma)) :=
  (pe_cmp (pc_notN ha) rfl).imp fun σ H Q ⟨F, ρ, sr, p⟩ => one1 sr p fun x dx d ρ2 F2 H2 s2 r e q => by cases e; rw [vw_non r]; exact q F2 H2 _ Grow.refl s2 (.bl _)
theorem t_isN {j pos'} {ma : M Arg} (ha : PE X a (tA C ma)) : PT X (.Compare a [.Is] [.Constant .none j pos'] pos) (tT C ((m1 gIsN ma).bind asBool)) :=
  (pt_cmp (pc_isN ha) rfl).imp fun σ H Q ⟨F, ρ, sr, p⟩ => by
    have p' : PostE C (rD C.K) σ ρ F H (fun x H' => ∃ k, x = V.bl k ∧ Q k H') (m1 gIsN ma ρ) := p.part fun d ρ1 F1 H1 x e1 q1 g1 s1 r1 => asBool_post (β := Bool) (ρ0 := ρ) s1 r1 (q1.on stb_T g1)
    exact one1 sr p' fun x dx d ρ2 F2 H2 s2 r e q => by cases e; rw [vw_non r]; exact q F2 H2 _ Grow.refl s2 (.bl _)
theorem t_notN {j pos'} {ma : M Arg} (ha : PE X a (tA C ma)) : PT X (.Compare a [.IsNot] [.Constant .none j pos'] pos) (tT C ((m1 gNotN ma).bind asBool)) :=
  (pt_cmp (pc_notN ha) rfl).imp fun σ H Q ⟨F, ρ, sr, p⟩ => by
    have p' : PostE C (rD C.K) σ ρ F H (fun x H' => ∃ k, x = V.bl k ∧ Q k H') (m1 gNotN ma ρ) := p.part fun d ρ1 F1 H1 x e1 q1 g1 s1 r1 => asBool_post (β := Bool) (ρ0 := ρ) s1 r1 (q1.on stb_T g1)
    exact one1 sr p' fun x dx d ρ2 F2 H2 s2 r e q => by cases e; rw [vw_non r]; exact q F2 H2 _ Grow.refl s2 (.bl _)
/-- a if t else b -/
def mIf {γ : Type} (mt : M Bool) (ma mb : M γ) : M γ := mt.bind fun b => if b = true then ma else mb
theorem d_if {mt : M Bool} {ma mb : M PyData} (hc : PT X c (tT C mt)) (ha : PE X a (tD C ma)) (hb : PE X b (tD C mb)) : PE X (.IfExp c a b pos) (tD C (mIf mt ma mb)) :=
  (pe_ifExp hc ha hb).imp fun σ H Q ⟨F, ρ, sr, p⟩ => ⟨F, ρ, sr, p.part fun k ρ1 F1 H1 x e1 q1 g1 s1 r1 => by
    subst r1
    have q1 := q1.on stb_D g1
    cases x with
    | true => exact ⟨F1, ρ1, s1, q1⟩
    | false => exact ⟨F1, ρ1, s1, q1⟩⟩
theorem o_if {mt : M Bool} {ma mb : M OD} (hc : PT X c (tT C mt)) (ha : PE X a (tO C ma)) (hb : PE X b (tO C mb)) : PE X (.IfExp c a b pos) (tO C (mIf mt ma mb)) :=
  (pe_ifExp hc ha hb).imp fun σ H Q ⟨F, ρ, sr, p⟩ => ⟨F, ρ, sr, p.part fun k ρ1 F1 H1 x e1 q1 g1 s1 r1 => by
    subst r1
    have q1 := q1.on stb_O g1
    cases x with
    | true => exact ⟨F1, ρ1, s1, q1⟩
    | false => exact ⟨F1, ρ1, s1, q1⟩⟩
/-! ## lists that change -/
theorem SR.write {K : Kw} {F H : Hp} {σ : St} {ρ : Rho} {i : Nat} {a : Addr} {o o' : OD} {u : HO} (s : SR K F H σ ρ) (h : ρ[i]? = some (some o)) (io : o.isO = true) (hv : σ[i]? = some (some (.ref a))) (io' : o'.isO = true) (hr : OR K F (upd H a u) (.ref a) o') :
    SR K F (upd H a u) σ (ρ.set i (some o')) ∧ Grow (own σ ρ) (own σ (ρ.set i (some o'))) F H F (upd H a u) := by
  have fa : F a = none := (own.at s ⟨i, o, h, io, hv⟩).1
  have hl : i < ρ.length := (List.getElem?_eq_some_iff.mp h).1
  have w := s.wipe i
  have s1 : SR K F (upd H a u) σ (ρ.set i none) := by
    refine w.on (Same.refl _) (fun b x e => by rw [upd_ne (ne_of_none e fa)]; exact s.sub b x e) fun b hb => ?_
    obtain ⟨f1, x, h1⟩ := own.at w hb
    refine ⟨f1, fun x' e => ?_⟩
    rw [upd_ne (fun z => own.wipeNe s h io hv (by rw [← z]; exact hb))]
    exact e
  refine ⟨?_, Grow.less (Grow.wr ⟨i, o, h, io, hv⟩) fun b hb => ?_⟩
  · have s2 := SR.put (i := i) (o := o') s1 hv hr (fun _ b e => by
      cases e
      rw [List.set_set]
      exact own.wipeNe s h io hv)
    rw [List.set_set] at s2
    exact s2
  · rcases hb.put with z | ⟨_, z⟩
    · exact (own.wipe z).1
    · exact ⟨i, o, h, io, z⟩
/-- xs.append(e) of the slot i -/
def mAppend (i : Nat) (m : M PyData) : M PyData := m.bind fun d => fun ρ => match ρ[i]? with
  | some (some (.ol xs)) => if xs.length < sizeLine then .ok .none (ρ.set i (some (.ol (xs ++ [d])))) else .bad
  | _ => .bad
/-- what the slot is, at every state of the walk so far: a list of its own -/
def isOl (ρ : Rho) (i : Nat) : Bool := match ρ[i]? with
  | some (some (.ol _)) => true
  | _ => false
def mOl {γ : Type} (i : Nat) (m : M γ) : M γ := fun ρ => if isOl ρ i = true then m ρ else .bad
theorem isOl_at {ρ : Rho} {i : Nat} (h : isOl ρ i = true) : ∃ xs, ρ[i]? = some (some (.ol xs)) := by
  unfold isOl at h
  split at h
  · rename_i xs e; exact ⟨xs, e⟩
  · cases h
theorem x_append {i : Nat} {o : Expr} {m : M PyData} (ho : PE X o (tVar i)) (he : PE X e (tD C m))
    (hbase : attributeBase o "append" X.env (eval o X.env) = eval o X.env := by rfl)
    (hfew : ((backTo cpos (starEach [e] X.env)).all (fun z => !z.1) && (backToKw cpos (keywordEach [] X.env)).all (fun z => z.1.isSome)
      && decide ([e].length + ([] : List Keyword).length + (if ([] : List Keyword).isEmpty then 0 else 1) < 30)) = true := by rfl)
    (hline : (apos.endLine == cpos.line) = true := by rfl) (hs : starEach [e] X.env = (false, eval e X.env) :: starEach [] X.env := by rfl) :
    PE X (.Call (.Attribute o "append" apos) [e] [] cpos) (tD C (mOl i (mAppend i m))) := by
  refine (pe_bm PySem.F.plainAttrs_list PySem.F.slot_list_append PySem.F.type_list_append mt_append ho (pa_cons he pa_nil hs) hbase hfew hline hs rfl).imp fun σ H Q ⟨F, ρ, sr, p⟩ => ?_
  unfold mOl at p
  split at p
  · rename_i hi
    obtain ⟨xs, ex⟩ := isOl_at hi
    obtain ⟨v, hv, a, vs, rfl, h1, h2, h3⟩ := sr.sl i _ ex
    refine ⟨_, hv, .inl ⟨rfl, vs, SqL.of h2⟩, F, ρ, sr, p.part fun d ρ1 F1 H1 y e1 q1 g1 s1 r1 => ?_⟩
    have q1 := q1.on stb_D g1
    cases q : ρ1[i]? with
    | none => simp only [q] at q1; exact q1.elim
    | some oo =>
      cases oo with
      | none => simp only [q] at q1; exact q1.elim
      | some oo =>
        cases oo with
        | ol ys =>
          simp only [q] at q1
          split at q1
          · rename_i hz
            obtain ⟨v', hv', b, ws, e2, k1, k2, k3⟩ := s1.sl i _ q
            rw [hv] at hv'; cases hv'; cases e2
            have st := SR.write (i := i) (o' := .ol (ys ++ [d])) (u := .lst (ws ++ [y])) s1 q rfl hv rfl ⟨a, ws ++ [y], rfl, k1, upd_same, k3.append (.cons r1 .nil)⟩
            exact ⟨a, ws, y, rfl, rfl, k2, by rw [k3.len]; exact hz, q1 F1 _ _ st.2 st.1 .non⟩
          · exact q1.elim
        | _ => simp only [q] at q1; exact q1.elim
  · exact p.elim
/-- xs.pop(k) of the slot i -/
def mPopAt (i : Nat) (m : M PyData) : M PyData := m.bind fun d => fun ρ => match d, ρ[i]? with
  | .int j, some (some (.ol xs)) => if -(2 ^ 63) ≤ j ∧ j < 2 ^ 63 then (match seqIndex? j xs.length with
      | some k => (match xs[k]? with
        | some y => .ok y (ρ.set i (some (.ol (xs.eraseIdx k))))
        | none => .bad)
      | none => .bad) else .bad
  | _, _ => .bad
theorem x_popAt {i : Nat} {o : Expr} {m : M PyData} (ho : PE X o (tVar i)) (he : PE X e (tD C m))
    (hbase : attributeBase o "pop" X.env (eval o X.env) = eval o X.env := by rfl)
    (hfew : ((backTo cpos (starEach [e] X.env)).all (fun z => !z.1) && (backToKw cpos (keywordEach [] X.env)).all (fun z => z.1.isSome)
      && decide ([e].length + ([] : List Keyword).length + (if ([] : List Keyword).isEmpty then 0 else 1) < 30)) = true := by rfl)
    (hline : (apos.endLine == cpos.line) = true := by rfl) (hs : starEach [e] X.env = (false, eval e X.env) :: starEach [] X.env := by rfl) :
    PE X (.Call (.Attribute o "pop" apos) [e] [] cpos) (tD C (mOl i (mPopAt i m))) := by
  refine (pe_bm PySem.F.plainAttrs_list PySem.F.slot_list_pop PySem.F.type_list_pop mt_popAt ho (pa_cons he pa_nil hs) hbase hfew hline hs rfl).imp fun σ H Q ⟨F, ρ, sr, p⟩ => ?_
  unfold mOl at p
  split at p
  · rename_i hi
    obtain ⟨xs, ex⟩ := isOl_at hi
    obtain ⟨v, hv, a, vs, rfl, h1, h2, h3⟩ := sr.sl i _ ex
    refine ⟨_, hv, .inl ⟨rfl, vs, SqL.of h2⟩, F, ρ, sr, p.part fun d ρ1 F1 H1 y e1 q1 g1 s1 r1 => ?_⟩
    have q1 := q1.on stb_D g1
    cases d with
    | int j =>
      cases q : ρ1[i]? with
      | none => simp only [q] at q1; exact q1.elim
      | some oo =>
        cases oo with
        | none => simp only [q] at q1; exact q1.elim
        | some oo =>
          cases oo with
          | ol ys =>
            simp only [q] at q1
            split at q1
            · rename_i hz
              cases ek : seqIndex? j ys.length with
              | none => simp only [ek] at q1; exact q1.elim
              | some k =>
                simp only [ek] at q1
                cases ey : ys[k]? with
                | none => simp only [ey] at q1; exact q1.elim
                | some z =>
                  simp only [ey] at q1
                  obtain ⟨v', hv', b, ws, e2, k1, k2, k3⟩ := s1.sl i _ q
                  rw [hv] at hv'; cases hv'; cases e2
                  obtain ⟨w, ew, dw⟩ := k3.get ey
                  cases r1
                  have st := SR.write (i := i) (o' := .ol (ys.eraseIdx k)) (u := .lst (ws.eraseIdx k)) s1 q rfl hv rfl ⟨a, ws.eraseIdx k, rfl, k1, upd_same, k3.erase k⟩
                  exact ⟨a, ws, j, k, w, rfl, rfl, k2, hz.1, hz.2, by rw [k3.len]; exact ek, ew, q1 F1 _ _ st.2 st.1 dw⟩
            · exact q1.elim
          | _ => simp only [q] at q1; exact q1.elim
    | _ => exact q1.elim
  · exact p.elim
end
end Eg
namespace Eg
open PySem L2 PySem.W PySem.SeqAt
/-! ## dicts of a slot: keys ints and texts -/
def keyD : PyData → Option Key
  | .int i => some (.inl i)
  | .str x => some (.inr x)
  | _ => none
theorem keyD_at {K : Kw} {H : Hp} {v : V} {d : PyData} {k : Key} (h : DV K H v d) (e : keyD d = some k) : v = kV k := by
  cases d <;> simp [keyD] at e <;> subst e <;> cases h <;> rfl
def dGet (kvs : List (Key × PyData)) (k : Key) : Option PyData := (kvs.find? fun kv => decide (kv.1 = k)).map (·.2)
def dPut (kvs : List (Key × PyData)) (k : Key) (v : PyData) : List (Key × PyData) :=
  if (kvs.any fun e => decide (e.1 = k)) = true then kvs.map (fun e => if e.1 = k then (e.1, v) else e) else kvs ++ [(k, v)]
section
variable {K : Kw} {H : Hp}
theorem KD.get {k : Key} : ∀ {es : List (Key × V)} {kvs : List (Key × PyData)} {d : PyData}, KD K H es kvs → dGet kvs k = some d → ∃ v, valV es k = some v ∧ DV K H v d
  | _, _, _, .nil, e => by cases e
  | _, _, d, .cons (k := k') (v := v) (d := d') h t, e => by
    by_cases q : k' = k
    · simp only [dGet, List.find?_cons, q, decide_true, Option.map_some] at e
      cases e
      exact ⟨v, valV_pos q, h⟩
    · simp only [dGet, List.find?_cons, q, decide_false] at e
      obtain ⟨w, e1, h1⟩ := KD.get t e
      exact ⟨w, by rw [valV_neg q]; exact e1, h1⟩
theorem KD.isIn {k : Key} : ∀ {es : List (Key × V)} {kvs : List (Key × PyData)}, KD K H es kvs → (valV es k).isSome = (dGet kvs k).isSome
  | _, _, .nil => rfl
  | _, _, .cons (k := k') (v := v) (d := d') h t => by
    by_cases q : k' = k
    · rw [valV_pos q]
      simp only [dGet, List.find?_cons, q, decide_true, Option.map_some, Option.isSome_some]
    · rw [valV_neg q, KD.isIn t]
      simp only [dGet, List.find?_cons, q, decide_false]
theorem KD.anyK {k : Key} : ∀ {es : List (Key × V)} {kvs : List (Key × PyData)}, KD K H es kvs → (es.any fun kv => decide (kv.1 = k)) = (kvs.any fun kv => decide (kv.1 = k))
  | _, _, .nil => rfl
  | _, _, .cons h t => by rw [List.any_cons, List.any_cons, KD.anyK t]
theorem KD.mapK {k : Key} {v : V} {d : PyData} (h : DV K H v d) : ∀ {es : List (Key × V)} {kvs : List (Key × PyData)}, KD K H es kvs → KD K H (es.map fun kv => if kv.1 = k then (kv.1, v) else kv) (kvs.map fun kv => if kv.1 = k then (kv.1, d) else kv)
  | _, _, .nil => .nil
  | _, _, .cons (k := k') h1 t => by
    rw [List.map_cons, List.map_cons]
    by_cases q : k' = k
    · rw [if_pos q, if_pos q]; exact .cons h (KD.mapK h t)
    · rw [if_neg q, if_neg q]; exact .cons h1 (KD.mapK h t)
theorem KD.snoc {k : Key} {v : V} {d : PyData} (h : DV K H v d) : ∀ {es : List (Key × V)} {kvs : List (Key × PyData)}, KD K H es kvs → KD K H (es ++ [(k, v)]) (kvs ++ [(k, d)])
  | _, _, .nil => .cons h .nil
  | _, _, .cons h1 t => .cons h1 (KD.snoc h t)
theorem KD.put {k : Key} {v : V} {d : PyData} (h : DV K H v d) {es : List (Key × V)} {kvs : List (Key × PyData)} (t : KD K H es kvs) : KD K H (putK es k v) (dPut kvs k d) := by
  unfold putK dPut
  rw [t.anyK]
  split
  · exact KD.mapK h t
  · exact KD.snoc h t
theorem KD.len : ∀ {es : List (Key × V)} {kvs : List (Key × PyData)}, KD K H es kvs → es.length = kvs.length
  | _, _, .nil => rfl
  | _, _, .cons _ t => by rw [List.length_cons, List.length_cons, KD.len t]
end
section
variable {X : Cx} {C : Ct} {e a b c o : Expr} {es : List Expr} {pos apos cpos pos' : Pos}
def mDGet (i : Nat) (mk : M PyData) : M PyData := mk.bind fun kd => fun ρ => match keyD kd, ρ[i]? with
  | some k, some (some (.od kvs)) => (match dGet kvs k with
    | some d => .ok d ρ
    | none => .bad)
  | _, _ => .bad
/-- the slot's value is there -/
def mHas {γ : Type} (i : Nat) (m : M γ) : M γ := fun ρ => match ρ[i]? with
  | some (some _) => m ρ
  | _ => .bad
theorem d_dget {i : Nat} {mk : M PyData} (hu : X.A.units + 1 < cLine) (ho : PE X o (tVar i)) (hi : PE X e (tD C mk)) (hs : NoSl e) : PE X (.Subscript o e pos) (tD C (mHas i (mDGet i mk))) :=
  (pe_dget hu ho hi hs).imp fun σ H Q ⟨F, ρ, sr, p⟩ => by
    unfold mHas at p
    split at p
    · rename_i oo eo
      obtain ⟨v, hv, _⟩ := sr.sl i _ eo
      refine ⟨v, hv, F, ρ, sr, p.part fun kd ρ1 F1 H1 y e1 q1 g1 s1 r1 => ?_⟩
      have q1 := q1.on stb_D g1
      split at q1
      · rename_i k kvs ek eo1
        split at q1
        · rename_i d ed
          obtain ⟨v', hv', a, es, rfl, k1, k2, k3⟩ := s1.sl i _ eo1
          rw [hv] at hv'; cases hv'
          obtain ⟨w, ew, dw⟩ := k3.get ed
          have ey := keyD_at r1 ek
          subst ey
          exact ⟨a, w, rfl, by rw [← ew]; exact DGet.k k2, q1 F1 H1 w Grow.refl s1 dw⟩
        · exact q1.elim
      · exact q1.elim
    · exact p.elim
/-! ## statements -/
inductive Out where
  | nx
  | rt (r : OD)
  | bk
  | ct
def Pres (σ σ' : St) (P : List Nat) : Prop := σ'.length = σ.length ∧ ∀ p, p ∈ P → σ'[p]? = σ[p]?
theorem Pres.refl {σ : St} {P : List Nat} : Pres σ σ P := ⟨rfl, fun _ _ => rfl⟩
theorem Pres.trans {σ σ1 σ2 : St} {P : List Nat} (a : Pres σ σ1 P) (b : Pres σ1 σ2 P) : Pres σ σ2 P := ⟨b.1.trans a.1, fun p h => (b.2 p h).trans (a.2 p h)⟩
def PostS (C : Ct) (P : List Nat) (σ : St) (ρ : Rho) (F H : Hp) (D : Ends) : Res Out → Prop
  | .ok .nx ρ' => ∀ F' H' σ', Grow (own σ ρ) (own σ' ρ') F H F' H' → SR C.K F' H' σ' ρ' → Pres σ σ' P → D.nx σ' H'
  | .ok (.rt r) ρ' => ∀ F' H' σ' v, Grow (own σ ρ) (own σ' ρ') F H F' H' → SR C.K F' H' σ' ρ' → Pres σ σ' P → OR C.K F' H' v r → (r.isO = true → ∀ a, v = .ref a → ¬ own σ' ρ' a ∧ (H a = none ∨ own σ ρ a)) → D.rt v H'
  | .ok .bk ρ' => ∀ F' H' σ', Grow (own σ ρ) (own σ' ρ') F H F' H' → SR C.K F' H' σ' ρ' → Pres σ σ' P → D.bk σ' H'
  | .ok .ct ρ' => ∀ F' H' σ', Grow (own σ ρ) (own σ' ρ') F H F' H' → SR C.K F' H' σ' ρ' → Pres σ σ' P → D.ct σ' H'
  | .ex x ρ' => ∀ F' H' σ' cls d, Grow (own σ ρ) (own σ' ρ') F H F' H' → SR C.K F' H' σ' ρ' → Pres σ σ' P → C.XR F' H' cls d x → C.W cls d σ' H'
  | .bad => False
def tS (C : Ct) (P : List Nat) (m : M Out) : TS := fun D σ H => ∃ F ρ, SR C.K F H σ ρ ∧ PostS C P σ ρ F H D (m ρ)
section
variable {P : List Nat} {σ σ1 : St} {ρ ρ1 : Rho} {F H F1 H1 : Hp} {D : Ends} {st : Stmt} {sts : List Stmt}
theorem PostS.on {x : Res Out} (h : PostS C P σ ρ F H D x) (g : Grow (own σ ρ) (own σ1 ρ1) F H F1 H1) (pr : Pres σ σ1 P) : PostS C P σ1 ρ1 F1 H1 D x := by
  cases x with
  | bad => exact h
  | ex x ρ' => exact fun F' H' σ' cls d g' s p r => h F' H' σ' cls d (g.trans g') s (pr.trans p) r
  | ok o ρ' =>
    cases o with
    | nx => exact fun F' H' σ' g' s p => h F' H' σ' (g.trans g') s (pr.trans p)
    | bk => exact fun F' H' σ' g' s p => h F' H' σ' (g.trans g') s (pr.trans p)
    | ct => exact fun F' H' σ' g' s p => h F' H' σ' (g.trans g') s (pr.trans p)
    | rt r => exact fun F' H' σ' v g' s p ro n => h F' H' σ' v (g.trans g') s (pr.trans p) ro fun io a e => ⟨(n io a e).1, by
        rcases (n io a e).2 with z | z
        · exact g.back z
        · rcases g.ows a z with y | y
          · exact .inr y
          · exact .inl y⟩
/-- an expression ahead of a statement's effect -/
theorem PostS.part {α β : Type} {RA : Hp → Hp → St → Rho → Rho → Hp → β → α → Prop} {R : β → Hp → Prop} {ma : M α} {f : α → M Out} (h : PostS C P σ ρ F H D (ma.bind f ρ))
    (k : ∀ a ρ' F' H' v, PostS C P σ ρ' F' H' D (f a ρ') → Grow (own σ ρ) (own σ ρ') F H F' H' → SR C.K F' H' σ ρ' → RA F' H' σ ρ' ρ H v a → R v H') : PostE C RA σ ρ F H R (ma ρ) := by
  unfold M.bind at h
  cases e : ma ρ with
  | ok a ρ' => rw [e] at h; exact fun F' H' v g s r => k a ρ' F' H' v (h.on g Pres.refl) g s r
  | ex x ρ' => rw [e] at h; exact fun F' H' cls d g s r => h F' H' σ cls d g s Pres.refl r
  | bad => rw [e] at h; exact h
theorem _root_.L2.PS.imp {t t' : TS} (h : PS X st t) (i : ∀ D σ H, t' D σ H → t D σ H) : PS X st t' := ⟨fun pins s σ H D I q => h.run pins s σ H D I (i _ _ _ q)⟩
theorem _root_.L2.PSs.imp {t t' : TS} (h : PSs X sts t) (i : ∀ D σ H, t' D σ H → t D σ H) : PSs X sts t' := ⟨fun pins s σ H D I q => h.run pins s σ H D I (i _ _ _ q)⟩
def sSeq (m n : M Out) : M Out := m.bind fun o => match o with
  | .nx => n
  | o => M.ret o
def sNext : M Out := M.ret .nx
theorem ss_nil : PSs X [] (tS C P sNext) := pss_nil.imp fun D σ H ⟨F, ρ, sr, p⟩ => p F H σ Grow.refl sr Pres.refl
theorem ss_cons {m n : M Out} (h1 : PS X st (tS C P m)) (h2 : PSs X sts (tS C P n)) : PSs X (st :: sts) (tS C P (sSeq m n)) :=
  (pss_cons h1 h2).imp fun D σ H ⟨F, ρ, sr, p⟩ => by
    refine ⟨F, ρ, sr, ?_⟩
    unfold sSeq M.bind at p
    cases e : m ρ with
    | bad => rw [e] at p; exact p
    | ex x ρ' => rw [e] at p; exact p
    | ok o ρ' =>
      rw [e] at p
      cases o with
      | nx => exact fun F' H' σ' g s pr => ⟨F', ρ', s, p.on g pr⟩
      | rt r => exact p
      | bk => exact p
      | ct => exact p
theorem ss_one {m : M Out} (h1 : PS X st (tS C P m)) : PSs X [st] (tS C P m) := (pss_one h1).imp fun D σ H q => q
def sExpr (m : M PyData) : M Out := m.bind fun _ => M.ret .nx
theorem s_expr {m : M PyData} (he : PE X e (tD C m)) (hs : swapsWith e none pos.line X.env = pure false := by rfl) : PS X (.Expr e pos) (tS C P (sExpr m)) :=
  (ps_expr he hs).imp fun D σ H ⟨F, ρ, sr, p⟩ => ⟨F, ρ, sr, p.part fun d ρ1 F1 H1 x q1 g1 s1 r1 => q1 F1 H1 σ Grow.refl s1 Pres.refl⟩
def sRet (m : M OD) : M Out := m.bind fun r => M.ret (.rt r)
theorem s_ret {m : M OD} (he : PE X e (tO C m)) : PS X (.Return (some e) pos) (tS C P (sRet m)) :=
  (ps_ret he).imp fun D σ H ⟨F, ρ, sr, p⟩ => by
    refine ⟨F, ρ, sr, ?_⟩
    unfold sRet M.bind at p
    cases e : m ρ with
    | bad => rw [e] at p; exact p
    | ex x ρ' => rw [e] at p; exact fun F' H' cls d g s r => p F' H' σ cls d g s Pres.refl r
    | ok r ρ' => rw [e] at p; exact fun F' H' v g s q => p F' H' σ v g s Pres.refl q.1 q.2
def sRetN : M Out := M.ret (.rt (.sh .none))
theorem s_retN : PS X (.Return none pos) (tS C P sRetN) := ps_retN.imp fun D σ H ⟨F, ρ, sr, p⟩ => p F H σ .non Grow.refl sr Pres.refl (.non) fun z => by cases z
def sIf (mt : M Bool) (ma mb : M Out) : M Out := mt.bind fun b => if b = true then ma else mb
theorem s_if {as bs : List Stmt} {mt : M Bool} {ma mb : M Out} (hc : PT X c (tT C mt)) (ha : PSs X as (tS C P ma)) (hb : PSs X bs (tS C P mb)) : PS X (.If c as bs pos) (tS C P (sIf mt ma mb)) :=
  (ps_if hc ha hb).imp fun D σ H ⟨F, ρ, sr, p⟩ => ⟨F, ρ, sr, p.part fun k ρ1 F1 H1 x q1 g1 s1 r1 => by
    subst r1
    cases x with
    | true => exact ⟨F1, ρ1, s1, q1⟩
    | false => exact ⟨F1, ρ1, s1, q1⟩⟩
theorem s_pass : PS X (.Pass pos) (tS C P sNext) := ps_pass.imp fun D σ H ⟨F, ρ, sr, p⟩ => p F H σ Grow.refl sr Pres.refl
theorem s_break : PS X (.Break pos) (tS C P (M.ret .bk)) := ps_break.imp fun D σ H ⟨F, ρ, sr, p⟩ => p F H σ Grow.refl sr Pres.refl
theorem s_cont : PS X (.Continue pos) (tS C P (M.ret .ct)) := ps_continue.imp fun D σ H ⟨F, ρ, sr, p⟩ => p F H σ Grow.refl sr Pres.refl
/-! a name is stored -/
theorem SR.store {K : Kw} {i : Nat} {v : V} {o : OD} (s : SR K F H σ ρ) (hi : i < σ.length) (h : OR K F H v o) (no : o.isO = true → ∀ a, v = .ref a → ¬ own σ ρ a) : SR K F H (σ.set i (some v)) (ρ.set i (some o)) := by
  have hr : i < ρ.length := by rw [s.len]; exact hi
  refine ⟨s.sub, by rw [List.length_set, List.length_set]; exact s.len, fun j u hj => ?_, fun j k u u' a ne h1 i1 h2 i2 h3 h4 => ?_⟩
  · by_cases e : i = j
    · subst e
      rw [List.getElem?_set_self hr] at hj; cases hj
      exact ⟨v, by rw [List.getElem?_set_self hi], h⟩
    · rw [List.getElem?_set_ne e] at hj
      obtain ⟨w, e1, e2⟩ := s.sl j u hj
      exact ⟨w, by rw [List.getElem?_set_ne e]; exact e1, e2⟩
  · by_cases ej : i = j
    · subst ej
      rw [List.getElem?_set_self hr] at h1; cases h1
      rw [List.getElem?_set_self hi] at h3
      rw [List.getElem?_set_ne ne] at h2 h4
      cases h3
      exact no i1 a rfl ⟨k, u', h2, i2, h4⟩
    · by_cases ek : i = k
      · subst ek
        rw [List.getElem?_set_self hr] at h2; cases h2
        rw [List.getElem?_set_self hi] at h4
        rw [List.getElem?_set_ne ej] at h1 h3
        cases h4
        exact no i2 a rfl ⟨j, u, h1, i1, h3⟩
      · rw [List.getElem?_set_ne ej] at h1 h3
        rw [List.getElem?_set_ne ek] at h2 h4
        exact s.sep j k u u' a ne h1 i1 h2 i2 h3 h4
theorem own.store {i : Nat} {v : V} {o : OD} {b : Addr} (hi : i < σ.length) (h : own (σ.set i (some v)) (ρ.set i (some o)) b) : own σ ρ b ∨ (o.isO = true ∧ v = .ref b) := by
  obtain ⟨j, u, e1, e2, e3⟩ := h
  by_cases e : i = j
  · subst e
    rw [List.getElem?_set_self hi] at e3; cases e3
    by_cases hr : i < ρ.length
    · rw [List.getElem?_set_self hr] at e1; cases e1; exact .inr ⟨e2, rfl⟩
    · rw [List.getElem?_eq_none (by rw [List.length_set]; omega)] at e1; cases e1
  · rw [List.getElem?_set_ne e] at e1 e3
    exact .inl ⟨j, u, e1, e2, e3⟩
/-- the state behind a store -/
theorem stored {i : Nat} {v : V} {o : OD} {ρ0 : Rho} {H0 F0 : Hp} (s : SR C.K F H σ ρ) (hi : i < σ.length) (hP : i ∉ P) (g : Grow (own σ ρ0) (own σ ρ) F0 H0 F H) (h : rO C.K F H σ ρ ρ0 H0 v o) :
    SR C.K F H (σ.set i (some v)) (ρ.set i (some o)) ∧ Grow (own σ ρ0) (own (σ.set i (some v)) (ρ.set i (some o))) F0 H0 F H ∧ Pres σ (σ.set i (some v)) P := by
  refine ⟨s.store hi h.1 fun io a e => (h.2 io a e).1, ⟨g.ext, g.keep, g.new, fun b hb => ?_⟩, by rw [List.length_set], fun p hp => List.getElem?_set_ne fun z => hP (by rw [z]; exact hp)⟩
  rcases own.store hi hb with z | ⟨z1, z2⟩
  · exact g.ows b z
  · rcases (h.2 z1 b z2).2 with y | y
    · exact .inr y
    · exact .inl y
def sSet (i : Nat) (m : M OD) : M Out := m.bind fun o => fun ρ => .ok .nx (ρ.set i (some o))
theorem PostS.set {i : Nat} {m : M OD} (h : PostS C P σ ρ F H D (sSet i m ρ)) (hi : i < σ.length) (hP : i ∉ P) : PostE C (rO C.K) σ ρ F H (fun v H' => D.nx (σ.set i (some v)) H') (m ρ) := by
  unfold sSet M.bind at h
  cases e : m ρ with
  | bad => rw [e] at h; exact h
  | ex x ρ' => rw [e] at h; exact fun F' H' cls d g s r => h F' H' σ cls d g s Pres.refl r
  | ok o ρ' =>
    rw [e] at h
    intro F' H' v g s r
    obtain ⟨a1, a2, a3⟩ := stored (P := P) s hi hP g r
    exact h F' H' _ a2 a1 a3
theorem s_set {i : Nat} {x : Str} {m : M OD} (hN : X.N.Nodup) (hi : X.N[i]? = some x) (hx : Loc X.env.scope x) (he : PE X e (tO C m)) (hP : i ∉ P := by decide) (hs : swapsWith e (some (.Name x pos')) pos.line X.env = pure false := by rfl) (hf : X.fn x = true ∨ X.env.scope.names.lookup x = some .local := by first | exact .inl rfl | exact .inr rfl | assumption) :
    PS X (.Assign [.Name x pos'] e pos) (tS C P (sSet i m)) := by
  refine ⟨fun pins s σ H D I ⟨F, ρ, sr, p⟩ => (ps_set hN hi hx he hs hf).run pins s σ H D I ⟨F, ρ, sr, ?_⟩⟩
  exact PostS.set p (by rw [I.len]; exact (List.getElem?_eq_some_iff.mp hi).1) hP
end
end
end Eg
namespace Eg
open PySem L2 PySem.W PySem.SeqAt
section
variable {X : Cx} {C : Ct} {e a b c o tg iter : Expr} {es : List Expr} {pos apos cpos pos' : Pos} {P : List Nat} {σ σ1 : St} {ρ ρ1 : Rho} {F H F1 H1 : Hp} {D : Ends} {body : List Stmt}
/-! ## what is walked -/
def WalkD (K : Kw) (F : Hp) (J : It) (xs : List PyData) : Prop := ∀ F2 H2 (i : Nat), Same F F2 → Same F2 H2 → (xs.length ≤ i → J.stop i H2) ∧ ∀ x, xs[i]? = some x → J.go i H2 ∧ ∀ v H3, J.yld i H2 v H3 → ∃ F3, Alloc K F2 H2 F3 H3 v (.sh x)
def tI (C : Ct) (m : M (List PyData)) : TI := fun σ H R => ∃ F ρ, SR C.K F H σ ρ ∧ PostE (β := It) C (fun F' _ _ _ _ _ J xs => WalkD C.K F' J xs) σ ρ F H R (m ρ)
theorem stb_I {K : Kw} : Stb (β := It) (fun F' _ _ _ _ _ J xs => WalkD K F' J xs) := fun _ _ _ _ _ _ _ _ _ _ _ _ _ r => r
def seqItems : PyData → M (List PyData)
  | .list ds => M.ret ds
  | .tuple ds => M.ret ds
  | _ => M.bad
/-- a list or a tuple, walked -/
theorem pi_seq {l : Expr} {tl : TE} (hl : PE X l tl) : PI X tg l (fun σ H R => tl σ H fun x H1 => ∃ a, x = .ref a ∧ (((∃ xs, SqL X.K H1 a xs) ∧ R (Itl X.K a) H1) ∨ ((∃ xs, SqT X.K H1 a xs) ∧ R (Itt X.K a) H1))) := by
  refine ⟨fun pins s σ H R I h => thn (hl.run pins s σ H _ I h) fun v s1 ⟨x, H1, I1, r1, a, ex, q⟩ => ?_⟩
  subst ex
  cases r1
  have fp : ∀ b ∈ [s1.heap.objs.size], FpOk X pins H1 b := fun b hb => by
    have eb : b = s1.heap.objs.size := by simpa using hb
    subst eb
    exact I1.fpOk (Nat.le_refl _) (I1.hok.fresh (Nat.le_refl _))
  rcases q with ⟨⟨xs, hq⟩, q⟩ | ⟨⟨xs, hq⟩, q⟩
  · obtain ⟨its, rv, pl, hz⟩ := I1.list hq
    exact wpAny_pyIter_list pl.isList ⟨_, [_], _, _, H1, rfl, I1.kept (t' := s1.toks) fun b o e => Heap.get?_push_of_some _ e, turn_list a _, ⟨_, Heap.get?_push_size _ rfl, rfl, rfl⟩, fp, q⟩
  · obtain ⟨its, rv, pl, hz⟩ := I1.tuple hq
    exact wpAny_pyIter_tuple (show s1.heap.IsTuple a its.toArray from pl) ⟨_, [_], _, _, H1, rfl, I1.kept (t' := s1.toks) fun b o e => Heap.get?_push_of_some _ e, turn_tuple a _, ⟨_, Heap.get?_push_size _ rfl, rfl, rfl⟩, fp, q⟩
theorem _root_.L2.PI.imp {t t' : TI} (h : PI X tg iter t) (i : ∀ σ H R, t' σ H R → t σ H R) : PI X tg iter t' := ⟨fun pins s σ H R I q => h.run pins s σ H R I (i _ _ _ q)⟩
theorem walk_list {K : Kw} {a : Addr} {vs : List V} {ds : List PyData} (h : F a = some (.lst vs)) (hd : DVs K F vs ds) : WalkD K F (Itl K a) ds := fun F2 H2 i s1 s2 => by
  have h2 : SqL K H2 a vs := SqL.of (s2 _ _ (s1 _ _ h))
  refine ⟨fun hl => ⟨vs, h2, by rw [hd.len]; exact hl⟩, fun x hx => ?_⟩
  obtain ⟨v, ev, dv⟩ := hd.get hx
  refine ⟨⟨vs, v, h2, ev⟩, fun w H3 y => ?_⟩
  obtain ⟨e1, y⟩ := y
  subst e1
  have := y vs h2
  rw [ev] at this; cases this
  exact ⟨F2, .asis (DV.mono s1 dv)⟩
theorem walk_tup {K : Kw} {a : Addr} {vs : List V} {ds : List PyData} (h : SqT K F a vs) (hd : DVs K F vs ds) : WalkD K F (Itt K a) ds := fun F2 H2 i s1 s2 => by
  have h2 : SqT K H2 a vs := s2.sqT (s1.sqT h)
  refine ⟨fun hl => ⟨vs, h2, by rw [hd.len]; exact hl⟩, fun x hx => ?_⟩
  obtain ⟨v, ev, dv⟩ := hd.get hx
  refine ⟨⟨vs, v, h2, ev⟩, fun w H3 y => ?_⟩
  obtain ⟨e1, y⟩ := y
  subst e1
  have := y vs h2
  rw [ev] at this; cases this
  exact ⟨F2, .asis (DV.mono s1 dv)⟩
theorem i_seq {m : M PyData} (h : PE X iter (tD C m)) (hK : X.KW = C.K := by rfl) : PI X tg iter (tI C (m.bind seqItems)) :=
  (pi_seq h).imp fun σ H R ⟨F, ρ, sr, p⟩ => ⟨F, ρ, sr, p.part fun d ρ1 F1 H1 x e1 q1 g1 s1 r1 => by
    have q1 := q1.on stb_I g1
    rw [show X.K = C.K.fr from congrArg Kw.fr hK]
    cases r1 with
    | @lst a vs ds h1 h2 => exact ⟨a, rfl, .inl ⟨⟨vs, SqL.of (s1.sub _ _ h1)⟩, q1 F1 H1 _ Grow.refl s1 (walk_list h1 h2)⟩⟩
    | @tup a vs ds h1 h2 => exact ⟨a, rfl, .inr ⟨⟨vs, s1.sub.sqT h1⟩, q1 F1 H1 _ Grow.refl s1 (walk_tup h1 h2)⟩⟩
    | _ => exact q1.elim⟩
/-- a range -/
def rngD (lo : Int) (n : Nat) : List PyData := (List.range n).map fun (k : Nat) => .int (lo + (k : Int))
theorem walk_rng {K : Kw} {lo : Int} {n : Nat} : WalkD K F (Itr lo n) (rngD lo n) := fun F2 H2 i s1 s2 => by
  have hl : (rngD lo n).length = n := by simp [rngD]
  refine ⟨fun h => by rw [hl] at h; exact h, fun x hx => ?_⟩
  have hi : i < n := by
    have := (List.getElem?_eq_some_iff.mp hx).1
    rw [hl] at this; exact this
  refine ⟨hi, fun v H3 ⟨e1, e2⟩ => ?_⟩
  subst e1 e2
  have ex : x = .int (lo + (i : Int)) := by
    simp [rngD, hi] at hx
    exact hx.symm
  subst ex
  exact ⟨F2, .asis (.int _)⟩
def rng1 : List PyData → Option (List PyData)
  | [.int j] => if -(2 ^ 62) ≤ j ∧ j < 2 ^ 62 then some (rngD 0 j.toNat) else none
  | _ => none
def rng2 : List PyData → Option (List PyData)
  | [.int i, .int j] => if -(2 ^ 62) ≤ i ∧ i < 2 ^ 62 ∧ -(2 ^ 62) ≤ j ∧ j < 2 ^ 62 then some (rngD i (j - i).toNat) else none
  | _ => none
theorem many' {γ β : Type} {ms : M (List Arg)} {g : List PyData → Option γ} {RR : Hp → Hp → St → Rho → Rho → Hp → β → γ → Prop} {Q : β → Hp → Prop} {R : List V → Hp → Prop}
    (sr : SR C.K F H σ ρ) (st : Stb RR) (p : PostE C RR σ ρ F H Q (mL g ms ρ))
    (k : ∀ xs ds d ρ2 F2 H2, SR C.K F2 H2 σ ρ2 → Vws C.K F2 H2 xs ds → g ds = some d → PostE C RR σ ρ2 F2 H2 Q (.ok d ρ2) → R xs H2) : tL C ms σ H R :=
  ⟨F, ρ, sr, p.part fun as ρ1 F1 H1 xs e1 q1 g1 s1 r1 => by
    have q1 := q1.on st g1
    cases ex : resL ρ1 as with
    | none => simp only [M.bind, M.get, ex] at q1; exact q1.elim
    | some ds =>
      cases ed : g ds with
      | none => simp only [M.bind, M.get, ex, Option.bind_eq_bind, Option.bind_some, ed] at q1; exact q1.elim
      | some d =>
        simp only [M.bind, M.get, ex, Option.bind_eq_bind, Option.bind_some, ed] at q1
        exact k xs ds d ρ1 F1 H1 s1 (rAs.views s1 r1 ex) ed q1⟩
theorem i_range1 {p : Pos} {ms : M (List Arg)} (hg : Gl X "range") (hm : X.mg "range" = none) (ha : PA X [a] (tL C ms)) (hs : starEach [a] X.env = [(false, eval a X.env)] := by rfl) : PI X tg (.Call (.Name "range" p) [a] [] pos) (tI C (mL rng1 ms)) :=
  (pi_range1 hg hm ha hs).imp fun σ H R ⟨F, ρ, sr, q⟩ => many' sr stb_I q fun xs ds d ρ2 F2 H2 s2 vw e q => by
    match ds, vw, e with
    | [.int j], .cons h .nil, e =>
      simp only [rng1] at e
      split at e <;> cases e
      rename_i hz
      cases h
      exact ⟨j, rfl, hz.1, hz.2, q F2 H2 _ Grow.refl s2 walk_rng⟩
theorem i_range2 {p : Pos} {ms : M (List Arg)} (hg : Gl X "range") (hm : X.mg "range" = none) (ha : PA X [a, b] (tL C ms)) (hs : starEach [a, b] X.env = [(false, eval a X.env), (false, eval b X.env)] := by rfl) (hs2 : starEach [b] X.env = [(false, eval b X.env)] := by rfl) : PI X tg (.Call (.Name "range" p) [a, b] [] pos) (tI C (mL rng2 ms)) :=
  (pi_range2 hg hm ha hs hs2).imp fun σ H R ⟨F, ρ, sr, q⟩ => many' sr stb_I q fun xs ds d ρ2 F2 H2 s2 vw e q => by
    match ds, vw, e with
    | [.int i, .int j], .cons h (.cons h' .nil), e =>
      simp only [rng2] at e
      split at e <;> cases e
      rename_i hz
      cases h; cases h'
      exact ⟨i, j, rfl, hz, q F2 H2 _ Grow.refl s2 walk_rng⟩
/-- enumerate -/
def enumD : List PyData → Option (List PyData)
  | [.list ds] => some (ds.zipIdx.map fun p => .tuple [.int (p.2 : Nat), p.1])
  | _ => none
theorem walk_enum {K : Kw} {a : Addr} {vs : List V} {ds : List PyData} (h : F a = some (.lst vs)) (hd : DVs K F vs ds) : WalkD K F (Ite K a) (ds.zipIdx.map fun p => .tuple [.int (p.2 : Nat), p.1]) := fun F2 H2 i s1 s2 => by
  have h2 : SqL K H2 a vs := SqL.of (s2 _ _ (s1 _ _ h))
  refine ⟨fun hl => ⟨vs, h2, by rw [hd.len]; simpa using hl⟩, fun x hx => ?_⟩
  have hi : i < ds.length := by
    have := (List.getElem?_eq_some_iff.mp hx).1
    simpa using this
  have ex : x = .tuple [.int (i : Nat), ds[i]] := by
    rw [List.getElem?_map, List.getElem?_zipIdx] at hx
    simp [hi] at hx
    exact hx.symm
  subst ex
  obtain ⟨v, ev, dv⟩ := hd.get (show ds[i]? = some ds[i] by simp [hi])
  refine ⟨⟨vs, v, h2, ev⟩, fun w H3 ⟨T, x, e1, hT, e3, y⟩ => ?_⟩
  subst e1 e3
  have := y vs h2
  rw [ev] at this; cases this
  exact ⟨_, .tup hT (.cons (.int _) (.cons (DV.mono s1 dv) .nil))⟩
theorem i_enum {p tpos : Pos} {elts : List Expr} {kk : Nat} {m : M PyData} (hg : Gl X "enumerate") (hm : X.mg "enumerate" = none) (ha : PE X a (tD C m)) (hK : X.KW = C.K := by rfl) (hs : starEach [a] X.env = [(false, eval a X.env)] := by rfl) :
    PI X (.Tuple elts kk tpos) (.Call (.Name "enumerate" p) [a] [] pos) (tI C (m.bind fun d => M.lift (enumD [d]))) :=
  (pi_enum hg hm (pa_cons ha pa_nil (by rw [hs]; rfl)) hs).imp fun σ H R ⟨F, ρ, sr, q⟩ => ⟨F, ρ, sr, q.part fun d ρ1 F1 H1 x e1 q1 g1 s1 r1 => by
    have q1 := q1.on stb_I g1
    rw [show X.K = C.K.fr from congrArg Kw.fr hK]
    cases r1 with
    | @lst a vs ds h1 h2 => exact ⟨a, vs, rfl, SqL.of (s1.sub _ _ h1), q1 F1 H1 _ Grow.refl s1 (walk_enum h1 h2)⟩
    | _ => exact q1.elim⟩
/-! ## targets -/
abbrev Tgt := PyData → Rho → Option Rho
def TgOk (C : Ct) (P : List Nat) (n : Nat) (g : TG) (t : Tgt) : Prop := ∀ (v : V) (d : PyData) (σ : St) (ρ ρ' : Rho) (F H : Hp) (Q : St → Hp → Prop), σ.length = n → SR C.K F H σ ρ → DV C.K F v d → t d ρ = some ρ' →
  (∀ σ', SR C.K F H σ' ρ' → (∀ b, own σ' ρ' b → own σ ρ b) → Pres σ σ' P → Q σ' H) → g v σ H Q
def tName (i : Nat) : Tgt := fun d ρ => some (ρ.set i (some (.sh d)))
theorem g_name {i n : Nat} (hi : i < n := by decide) (hP : i ∉ P := by decide) : TgOk C P n (gName i) (tName i) := fun v d σ ρ ρ' F H Q hn sr dv e q => by
  cases e
  have hi' : i < σ.length := by rw [hn]; exact hi
  refine q _ (sr.store (o := .sh d) hi' dv fun z => by cases z) (fun b hb => ?_) ⟨by rw [List.length_set], fun p hp => List.getElem?_set_ne fun z => hP (by rw [z]; exact hp)⟩
  rcases own.store hi' hb with z | ⟨z, _⟩
  · exact z
  · cases z
def tTup (ts : List Tgt) : Tgt := fun d ρ => match d with
  | .tuple ds => go ts ds ρ
  | _ => none
where go : List Tgt → List PyData → Rho → Option Rho
  | [], [], ρ => some ρ
  | t :: ts, d :: ds, ρ => (t d ρ).bind fun ρ' => go ts ds ρ'
  | _, _, _ => none
inductive TgsOk (C : Ct) (P : List Nat) (n : Nat) : TGs → List Tgt → Prop
  | nil : TgsOk C P n gNil []
  | cons {g : TG} {u : TGs} {t : Tgt} {ts : List Tgt} : TgOk C P n g t → TgsOk C P n u ts → TgsOk C P n (gCons g u) (t :: ts)
theorem tgs_run {n : Nat} : ∀ {u : TGs} {ts : List Tgt}, TgsOk C P n u ts → ∀ (vs : List V) (ds : List PyData) (σ : St) (ρ ρ' : Rho) (F H : Hp) (Q : St → Hp → Prop), σ.length = n → SR C.K F H σ ρ → DVs C.K F vs ds → tTup.go ts ds ρ = some ρ' →
    (∀ σ', SR C.K F H σ' ρ' → (∀ b, own σ' ρ' b → own σ ρ b) → Pres σ σ' P → Q σ' H) → u vs σ H Q
  | _, _, .nil, _, _, σ, ρ, ρ', F, H, Q, hn, sr, .nil, e, q => by cases e; exact ⟨rfl, q σ sr (fun _ h => h) Pres.refl⟩
  | _, _, .cons hg hu, _, _, σ, ρ, ρ', F, H, Q, hn, sr, .nil, e, q => by cases e
  | _, _, .nil, _, _, σ, ρ, ρ', F, H, Q, hn, sr, .cons _ _, e, q => by cases e
  | _, _, .cons (t := t) hg hu, _, _, σ, ρ, ρ', F, H, Q, hn, sr, .cons (v := v) (d := d) h1 h2, e, q => by
    simp only [tTup.go] at e
    cases e1 : t d ρ with
    | none => rw [e1] at e; cases e
    | some ρ1 =>
      rw [e1] at e
      refine ⟨v, _, rfl, hg v d σ ρ ρ1 F H _ hn sr h1 e1 fun σ1 s1 o1 p1 => ?_⟩
      exact tgs_run hu _ _ σ1 ρ1 ρ' F H Q (by rw [p1.1]; exact hn) s1 h2 e fun σ2 s2 o2 p2 => q σ2 s2 (fun b hb => o1 b (o2 b hb)) (p1.trans p2)
theorem g_tup {n k : Nat} {u : TGs} {ts : List Tgt} (h : TgsOk C P n u ts) (hk : ts.length = k := by rfl) : TgOk C P n (gTup C.K k u) (tTup ts) := fun v d σ ρ ρ' F H Q hn sr dv e q => by
  cases dv with
  | @tup a vs ds h1 h2 =>
    refine ⟨a, vs, rfl, sr.sub.sqT h1, ?_, tgs_run h vs ds σ ρ ρ' F H Q hn sr h2 e q⟩
    rw [h2.len, ← hk]
    have : ∀ (ts : List Tgt) (ds : List PyData) (ρ ρ' : Rho), tTup.go ts ds ρ = some ρ' → ds.length = ts.length := by
      intro ts
      induction ts with
      | nil => intro ds ρ ρ' h; cases ds with
        | nil => rfl
        | cons _ _ => cases h
      | cons t ts ih => intro ds ρ ρ' h; cases ds with
        | nil => cases h
        | cons d ds =>
          simp only [tTup.go] at h
          cases e1 : t d ρ with
          | none => rw [e1] at h; cases h
          | some ρ1 => rw [e1] at h; rw [List.length_cons, List.length_cons, ih ds ρ1 ρ' h]
    exact this ts ds ρ ρ' e
  | _ => cases e
/-! ## for -/
def sLoop (t : Tgt) (body : M Out) : List PyData → M Out
  | [] => M.ret .nx
  | x :: xs => fun ρ => match t x ρ with
    | none => .bad
    | some ρ1 => (body.bind fun o => match o with
      | .nx => sLoop t body xs
      | .ct => sLoop t body xs
      | .bk => M.ret .nx
      | .rt r => M.ret (.rt r)) ρ1
def sFor (src : M (List PyData)) (t : Tgt) (body : M Out) : M Out := src.bind fun xs => sLoop t body xs
theorem PostS.grow (h : PostS C P σ ρ F H D (.ok .nx ρ)) : True := trivial
theorem s_for {g : TG} {t : Tgt} {src : M (List PyData)} {mb : M Out} {n : Nat} (hp : PassesOwn (model X.prog X.w) X.A X.env X.xe) (hc : X.calm = true) (hi : PI X tg iter (tI C src)) (hg : PG X tg g) (ht : TgOk C P n g t) (hb : PSs X body (tS C P mb)) (hN : X.N.length = n := by rfl)
    (hs : ∀ x, foldedSetIterable iter X.env x = pure x := by intro _; rfl) : PS X (.For tg iter body [] pos) (tS C P (sFor src t mb)) := by
  refine ⟨fun pins s σ H D I ⟨F, ρ, sr, p⟩ => (ps_for hp hc hi hg hb hs).run pins s σ H D I ⟨F, ρ, sr, p.part fun xs ρ1 F1 H1 J q1 g1 s1 wk => ?_⟩⟩
  have ln : σ.length = n := by rw [I.len, hN]
  refine ⟨fun i m σ' H' => m = xs.length - i ∧ i ≤ xs.length ∧ ∃ F' ρ', Same F1 F' ∧ SR C.K F' H' σ' ρ' ∧ σ'.length = n ∧ PostS C P σ' ρ' F' H' D (sLoop t mb (xs.drop i) ρ'), ⟨xs.length, by simp, Nat.zero_le _, F1, ρ1, Same.refl _, s1, ln, by rw [List.drop_zero]; exact q1⟩, ?_⟩
  rintro i m σ' H' ⟨rfl, hil, F', ρ', sf, s', ln', q'⟩
  obtain ⟨w1, w2⟩ := wk F' H' i sf s'.sub
  by_cases hlt : i < xs.length
  · obtain ⟨x, ex⟩ : ∃ x, xs[i] = x := ⟨_, rfl⟩
    obtain ⟨go, yl⟩ := w2 x (by rw [← ex]; simp [hlt])
    rw [List.drop_eq_getElem_cons hlt, ex] at q'
    simp only [sLoop] at q'
    refine .inr ⟨go, fun σ2 H2 => i + 1 ≤ xs.length ∧ ∃ F2 ρ2, Same F1 F2 ∧ SR C.K F2 H2 σ2 ρ2 ∧ σ2.length = n ∧ PostS C P σ2 ρ2 F2 H2 D (sLoop t mb (xs.drop (i + 1)) ρ2), fun σ2 H2 h2 => ⟨xs.length - (i + 1), by omega, rfl, h2⟩, fun v H2 y => ?_⟩
    obtain ⟨F2, al⟩ := yl v H2 y
    cases et : t x ρ' with
    | none => simp only [et] at q'; exact q'.elim
    | some ρ2 =>
      simp only [et] at q'
      have st : SR C.K F2 H2 σ' ρ' ∧ Grow (own σ' ρ') (own σ' ρ') F' H' F2 H2 ∧ DV C.K F2 v x := by
        cases al with
        | asis h => exact ⟨s', Grow.refl, h⟩
        | tup hp h =>
          have fp := s'.sub.free hp
          exact ⟨s'.laid hp, Grow.laid hp fp, .tup (.inl (.inl upd_same)) (h.upd fp)⟩
      obtain ⟨s2, g2, dv⟩ := st
      refine ht v x σ' ρ' ρ2 F2 H2 _ ln' s2 dv et fun σ3 s3 o3 p3 => ?_
      have g3 : Grow (own σ' ρ') (own σ3 ρ2) F' H' F2 H2 := g2.less o3
      have q3 := q'.on g3 p3
      refine ⟨F2, ρ2, s3, ?_⟩
      have ln3 : σ3.length = n := by rw [p3.1]; exact ln'
      have sf2 : Same F1 F2 := sf.trans g2.ext
      simp only [M.bind] at q3
      cases eb : mb ρ2 with
      | bad => simp only [eb] at q3; exact q3
      | ex x ρ4 => simp only [eb] at q3; exact q3
      | ok oo ρ4 =>
        simp only [eb] at q3
        cases oo with
        | nx => exact fun F4 H4 σ4 g4 s4 p4 => ⟨by omega, F4, ρ4, sf2.trans g4.ext, s4, by rw [p4.1]; exact ln3, q3.on g4 p4⟩
        | ct => exact fun F4 H4 σ4 g4 s4 p4 => ⟨by omega, F4, ρ4, sf2.trans g4.ext, s4, by rw [p4.1]; exact ln3, q3.on g4 p4⟩
        | bk => exact fun F4 H4 σ4 g4 s4 p4 => q3 F4 H4 σ4 g4 s4 p4
        | rt r => exact q3
  · have ei : i = xs.length := by omega
    subst ei
    rw [List.drop_length] at q'
    exact .inl ⟨w1 (Nat.le_refl _), q' F' H' σ' Grow.refl s' Pres.refl⟩
/-! ## while -/
def sWhile (mt : M Bool) (body : M Out) : Nat → M Out
  | 0 => M.bad
  | n + 1 => mt.bind fun b => if b = true then (body.bind fun o => match o with
      | .nx => sWhile mt body n
      | .ct => sWhile mt body n
      | .bk => M.ret .nx
      | .rt r => M.ret (.rt r)) else M.ret .nx
theorem s_while {mt : M Bool} {mb : M Out} (n : Nat) (hp : PassesOwn (model X.prog X.w) X.A X.env X.xe) (hc : PT X c (tT C mt)) (hb : PSs X body (tS C P mb)) : PS X (.While c body [] pos) (tS C P (sWhile mt mb n)) :=
  (ps_while hp hc hb).imp fun D σ H ⟨F, ρ, sr, p⟩ => by
    refine ⟨fun m σ' H' => ∃ F' ρ', SR C.K F' H' σ' ρ' ∧ PostS C P σ' ρ' F' H' D (sWhile mt mb m ρ'), ⟨n, F, ρ, sr, p⟩, ?_⟩
    rintro m σ' H' ⟨F', ρ', s', q'⟩
    cases m with
    | zero => exact q'.elim
    | succ m =>
      simp only [sWhile] at q'
      refine ⟨F', ρ', s', q'.part fun k ρ1 F1 H1 x q1 g1 s1 r1 => ?_⟩
      subst r1
      cases x with
      | false => exact q1 F1 H1 σ' Grow.refl s1 Pres.refl
      | true =>
        refine ⟨fun σ2 H2 => ∃ F2 ρ2, SR C.K F2 H2 σ2 ρ2 ∧ PostS C P σ2 ρ2 F2 H2 D (sWhile mt mb m ρ2), fun σ2 H2 h2 => ⟨m, Nat.lt_succ_self _, h2⟩, F1, ρ1, s1, ?_⟩
        simp only [if_true, M.bind] at q1
        cases eb : mb ρ1 with
        | bad => simp only [eb] at q1; exact q1
        | ex x ρ4 => simp only [eb] at q1; exact q1
        | ok oo ρ4 =>
          simp only [eb] at q1
          cases oo with
          | nx => exact fun F4 H4 σ4 g4 s4 p4 => ⟨F4, ρ4, s4, q1.on g4 p4⟩
          | ct => exact fun F4 H4 σ4 g4 s4 p4 => ⟨F4, ρ4, s4, q1.on g4 p4⟩
          | bk => exact fun F4 H4 σ4 g4 s4 p4 => q1 F4 H4 σ4 g4 s4 p4
          | rt r => exact q1
/-! ## a, b = e -/
def sUn (m : M PyData) (t : Tgt) : M Out := m.bind fun d => fun ρ => match t d ρ with
  | some ρ' => .ok .nx ρ'
  | none => .bad
theorem s_un {g : TG} {t : Tgt} {m : M PyData} {n : Nat} (he : PE X e (tD C m)) (hg : PG X tg g) (ht : TgOk C P n g t) (hN : X.N.length = n := by rfl) (hs : swapsWithSole [tg] e pos.line X.env = pure false := by rfl) (hw : swappedStores [tg] e X.env = pure none := by rfl)
    (h1 : (assignEach [tg] X.env).map (·.2) = [assign tg X.env] := by rfl) : PS X (.Assign [tg] e pos) (tS C P (sUn m t)) := by
  refine ⟨fun pins s σ H D I ⟨F, ρ, sr, p⟩ => (ps_asg he hg hs hw h1).run pins s σ H D I ⟨F, ρ, sr, p.part fun d ρ1 F1 H1 x q1 g1 s1 r1 => ?_⟩⟩
  cases et : t d ρ1 with
  | none => simp only [et] at q1; exact q1.elim
  | some ρ2 =>
    simp only [et] at q1
    exact ht x d σ ρ1 ρ2 F1 H1 _ (by rw [I.len, hN]) s1 r1 et fun σ3 s3 o3 p3 => q1 F1 H1 σ3 (Grow.refl.less o3) s3 p3
end
end Eg
namespace Eg
open PySem L2 PySem.W PySem.SeqAt
/-! ## comprehensions -/
def wipeR (ρ : Rho) : List Nat → Rho
  | [] => ρ
  | v :: vs => (wipeR ρ vs).set v none
def restR (ρ0 ρ : Rho) : List Nat → Rho
  | [] => ρ
  | v :: vs => (restR ρ0 ρ vs).set v (ρ0[v]?.join)
theorem wipeR_len (ρ : Rho) : ∀ vs, (wipeR ρ vs).length = ρ.length
  | [] => rfl
  | v :: vs => by simp only [wipeR, List.length_set]; exact wipeR_len ρ vs
theorem restR_len (ρ0 ρ : Rho) : ∀ vs, (restR ρ0 ρ vs).length = ρ.length
  | [] => rfl
  | v :: vs => by simp only [restR, List.length_set]; exact restR_len ρ0 ρ vs
theorem wipeR_out {ρ : Rho} {j : Nat} : ∀ {vs : List Nat}, j ∉ vs → (wipeR ρ vs)[j]? = ρ[j]?
  | [], _ => rfl
  | v :: vs, h => by
    rw [List.mem_cons, not_or] at h
    simp only [wipeR]
    rw [List.getElem?_set_ne (fun z => h.1 z.symm)]
    exact wipeR_out h.2
theorem wipeR_in {ρ : Rho} {j : Nat} {o : OD} : ∀ {vs : List Nat}, j ∈ vs → (wipeR ρ vs)[j]? ≠ some (some o)
  | v :: vs, h, e => by
    simp only [wipeR] at e
    by_cases q : v = j
    · subst q
      by_cases hl : v < (wipeR ρ vs).length
      · rw [List.getElem?_set_self hl] at e; cases e
      · rw [List.getElem?_eq_none (by rw [List.length_set]; omega)] at e; cases e
    · rw [List.getElem?_set_ne q] at e
      rcases List.mem_cons.mp h with z | z
      · exact q z.symm
      · exact wipeR_in z e
theorem wipe_out {σ : St} {j : Nat} : ∀ {vs : List Nat}, j ∉ vs → (wipe σ vs)[j]? = σ[j]?
  | [], _ => rfl
  | v :: vs, h => by
    rw [List.mem_cons, not_or] at h
    simp only [wipe]
    rw [List.getElem?_set_ne (fun z => h.1 z.symm)]
    exact wipe_out h.2
theorem wipe_in {σ : St} {j : Nat} : ∀ {vs : List Nat}, j ∈ vs → (wipe σ vs)[j]? = if j < σ.length then some none else none
  | v :: vs, h => by
    simp only [wipe]
    by_cases q : v = j
    · subst q
      by_cases hl : v < σ.length
      · rw [if_pos hl, List.getElem?_set_self (by rw [wipe_length]; exact hl)]
      · rw [if_neg hl, List.getElem?_eq_none (by rw [List.length_set, wipe_length]; omega)]
    · rw [List.getElem?_set_ne q]
      rcases List.mem_cons.mp h with z | z
      · exact absurd z.symm q
      · exact wipe_in z
theorem wipe_ext {σ τ : St} {vs : List Nat} (hl : σ.length = τ.length) (h : ∀ j, j < τ.length → j ∉ vs → σ[j]? = τ[j]?) : wipe σ vs = wipe τ vs := by
  refine List.ext_getElem? fun j => ?_
  by_cases q : j ∈ vs
  · rw [wipe_in q, wipe_in q, hl]
  · rw [wipe_out q, wipe_out q]
    by_cases hj : j < τ.length
    · exact h j hj q
    · rw [List.getElem?_eq_none (by omega), List.getElem?_eq_none (by omega)]
theorem wipe_wipe (σ : St) (vs : List Nat) : wipe (wipe σ vs) vs = wipe σ vs := wipe_ext (wipe_length σ vs) fun j _ q => wipe_out q
theorem restR_out {ρ0 ρ : Rho} {j : Nat} : ∀ {vs : List Nat}, j ∉ vs → (restR ρ0 ρ vs)[j]? = ρ[j]?
  | [], _ => rfl
  | v :: vs, h => by
    rw [List.mem_cons, not_or] at h
    simp only [restR]
    rw [List.getElem?_set_ne (fun z => h.1 z.symm)]
    exact restR_out h.2
theorem restR_in {ρ0 ρ : Rho} {j : Nat} {o : OD} : ∀ {vs : List Nat}, j ∈ vs → (restR ρ0 ρ vs)[j]? = some (some o) → ρ0[j]? = some (some o)
  | v :: vs, h, e => by
    simp only [restR] at e
    by_cases q : v = j
    · subst q
      by_cases hl : v < (restR ρ0 ρ vs).length
      · rw [List.getElem?_set_self hl] at e
        have e := Option.some.inj e
        cases q2 : ρ0[v]? with
        | none => rw [q2] at e; cases e
        | some x => rw [q2] at e; exact congrArg some e
      · rw [List.getElem?_eq_none (by rw [List.length_set]; omega)] at e; cases e
    · rw [List.getElem?_set_ne q] at e
      rcases List.mem_cons.mp h with z | z
      · exact absurd z.symm q
      · exact restR_in z e
section
variable {K : Kw} {σ τ : St} {ρ ρ1 : Rho} {F H F1 H1 : Hp} {vs : List Nat}
theorem SR.wipes (s : SR K F H σ ρ) (vs : List Nat) : SR K F H (L2.wipe σ vs) (wipeR ρ vs) := by
  have go : ∀ {j : Nat} {o : OD}, (wipeR ρ vs)[j]? = some (some o) → ρ[j]? = some (some o) ∧ j ∉ vs := fun {j o} h => by
    by_cases q : j ∈ vs
    · exact absurd h (wipeR_in q)
    · exact ⟨by rw [← wipeR_out q]; exact h, q⟩
  refine ⟨s.sub, by rw [wipe_length, wipeR_len]; exact s.len, fun j o h => ?_, fun j k o o' a ne h1 i1 h2 i2 h3 h4 => ?_⟩
  · obtain ⟨h1, q⟩ := go h
    obtain ⟨v, e, r⟩ := s.sl j o h1
    exact ⟨v, by rw [wipe_out q]; exact e, r⟩
  · obtain ⟨g1, q1⟩ := go h1
    obtain ⟨g2, q2⟩ := go h2
    rw [wipe_out q1] at h3
    rw [wipe_out q2] at h4
    exact s.sep j k o o' a ne g1 i1 g2 i2 h3 h4
theorem own.wipes {b : Addr} (h : own (L2.wipe σ vs) (wipeR ρ vs) b) : own σ ρ b ∧ ∃ (i : Nat) (o : OD), i ∉ vs ∧ ρ[i]? = some (some o) ∧ o.isO = true ∧ σ[i]? = some (some (V.ref b)) := by
  obtain ⟨i, o, e1, e2, e3⟩ := h
  by_cases q : i ∈ vs
  · exact absurd e1 (wipeR_in q)
  · rw [wipeR_out q] at e1
    rw [wipe_out q] at e3
    exact ⟨⟨i, o, e1, e2, e3⟩, i, o, q, e1, e2, e3⟩
theorem Grow.wide {ow ow' ow1 : Addr → Prop} (g : Grow ow ow1 F H F1 H1) (h : ∀ b, ow b → ow' b) : Grow ow' ow1 F H F1 H1 :=
  ⟨g.ext, fun b o e n => g.keep b o e fun z => n (h b z), fun b z => (g.new b z).imp id fun z => z.imp id (h b), fun b z => (g.ows b z).imp (h b) id⟩
/-- the block is left: its own names' slots are as they were -/
theorem SR.rest (s : SR K F H σ ρ) (s1 : SR K F1 H1 (L2.wipe σ vs) (wipeR ρ1 vs)) (hl : ρ1.length = ρ.length) (g : Grow (own (L2.wipe σ vs) (wipeR ρ vs)) (own (L2.wipe σ vs) (wipeR ρ1 vs)) F H F1 H1) :
    SR K F1 H1 σ (restR ρ ρ1 vs) ∧ Grow (own σ ρ) (own σ (restR ρ ρ1 vs)) F H F1 H1 := by
  -- an owned thing of a wiped slot is owned by none of the others
  have lone : ∀ (j : Nat) (o : OD) (a : Addr), j ∈ vs → ρ[j]? = some (some o) → o.isO = true → σ[j]? = some (some (V.ref a)) → ¬ own (L2.wipe σ vs) (wipeR ρ vs) a := fun j o a hj e io ea z => by
    obtain ⟨_, i, o', q, e1, e2, e3⟩ := own.wipes z
    exact s.sep j i o o' a (fun w => q (w ▸ hj)) e io e1 e2 ea e3
  have old : ∀ (j : Nat) (o : OD), j ∈ vs → ρ[j]? = some (some o) → ∃ v, σ[j]? = some (some v) ∧ OR K F1 H1 v o := fun j o hj e => by
    obtain ⟨v, ev, r⟩ := s.sl j o e
    refine ⟨v, ev, r.keep g.ext fun a ha io => ?_⟩
    subst ha
    have nl := lone j o a hj e io ev
    obtain ⟨fa, u, hu⟩ := own.at s ⟨j, o, e, io, ev⟩
    refine ⟨?_, fun u' hu' => g.keep a u' hu' nl⟩
    cases q : F1 a with
    | none => rfl
    | some x =>
      rcases g.new a (by rw [q]; simp) with z | z | z
      · exact absurd fa z
      · rw [hu] at z; cases z
      · exact absurd z nl
  have cs : ∀ {j : Nat} {o : OD}, (restR ρ ρ1 vs)[j]? = some (some o) → (j ∈ vs ∧ ρ[j]? = some (some o)) ∨ (j ∉ vs ∧ (wipeR ρ1 vs)[j]? = some (some o)) := fun {j o} h => by
    by_cases q : j ∈ vs
    · exact .inl ⟨q, restR_in q h⟩
    · rw [restR_out q] at h
      exact .inr ⟨q, by rw [wipeR_out q]; exact h⟩
  have mix : ∀ (j k : Nat) (o o' : OD) (a : Addr), j ∈ vs → ρ[j]? = some (some o) → o.isO = true → k ∉ vs → (wipeR ρ1 vs)[k]? = some (some o') → o'.isO = true → σ[j]? = some (some (V.ref a)) → σ[k]? ≠ some (some (V.ref a)) := fun j k o o' a hj e io hk e' io' ea ek => by
    have z : own (L2.wipe σ vs) (wipeR ρ1 vs) a := ⟨k, o', e', io', by rw [wipe_out hk]; exact ek⟩
    obtain ⟨fa, u, hu⟩ := own.at s ⟨j, o, e, io, ea⟩
    rcases g.ows a z with y | y
    · exact lone j o a hj e io ea y
    · rw [hu] at y; cases y
  refine ⟨⟨s1.sub, by rw [restR_len, hl]; exact s.len, fun j o h => ?_, fun j k o o' a ne h1 i1 h2 i2 h3 h4 => ?_⟩, ⟨g.ext, fun b o e n => g.keep b o e fun z => n (own.wipes z).1, fun b z => (g.new b z).imp id fun z => z.imp id fun z => (own.wipes z).1, fun b ⟨i, o, e1, e2, e3⟩ => ?_⟩⟩
  · rcases cs h with ⟨q, e⟩ | ⟨q, e⟩
    · exact old j o q e
    · obtain ⟨v, ev, r⟩ := s1.sl j o e
      rw [wipe_out q] at ev
      exact ⟨v, ev, r⟩
  · rcases cs h1 with ⟨q1, e1⟩ | ⟨q1, e1⟩ <;> rcases cs h2 with ⟨q2, e2⟩ | ⟨q2, e2⟩
    · exact s.sep j k o o' a ne e1 i1 e2 i2 h3 h4
    · exact mix j k o o' a q1 e1 i1 q2 e2 i2 h3 h4
    · exact mix k j o' o a q2 e2 i2 q1 e1 i1 h4 h3
    · exact s1.sep j k o o' a ne e1 i1 e2 i2 (by rw [wipe_out q1]; exact h3) (by rw [wipe_out q2]; exact h4)
  · rcases cs e1 with ⟨q, e⟩ | ⟨q, e⟩
    · exact .inl ⟨i, o, e, e2, e3⟩
    · exact (g.ows b ⟨i, o, e, e2, by rw [wipe_out q]; exact e3⟩).imp (fun z => (own.wipes z).1) id
end
def lcGo (t : Tgt) (tests : M Bool) (elt : M PyData) (vs : List Nat) : List PyData → List PyData → M (List PyData)
  | [], acc => M.ret acc
  | x :: xs, acc => fun ρ => match t x (wipeR ρ vs) with
    | none => .bad
    | some ρ1 => match tests ρ1 with
      | .ok false ρ2 => lcGo t tests elt vs xs acc ρ2
      | .ok true ρ2 => (match elt ρ2 with
        | .ok d ρ3 => if acc.length < sizeLine then lcGo t tests elt vs xs (acc ++ [d]) ρ3 else .bad
        | _ => .bad)
      | _ => .bad
def mComp (src : M (List PyData)) (t : Tgt) (tests : M Bool) (elt : M PyData) (vs : List Nat) : M OD := src.bind fun xs => fun ρ => match lcGo t tests elt vs xs [] ρ with
  | .ok acc ρ' => if ρ'.length = ρ.length then .ok (.ol acc) (restR ρ ρ' vs) else .bad
  | _ => .bad
/-- what a block wants of exceptions: none -/
abbrev Ct.quiet (C : Ct) : Ct := ⟨C.K, fun _ _ _ _ => False, C.XR⟩
theorem quiet_ok {α β : Type} {C : Ct} {RR : Hp → Hp → St → Rho → Rho → Hp → β → α → Prop} {σ : St} {ρ : Rho} {F H : Hp} {Q : β → Hp → Prop} {x : Res α} (h : ∃ a ρ', x = .ok a ρ')
    (k : ∀ a ρ', x = .ok a ρ' → PostE C RR σ ρ F H Q (.ok a ρ')) : PostE C RR σ ρ F H Q x := by
  obtain ⟨a, ρ', e⟩ := h
  rw [e]
  exact k a ρ' e
section
variable {X : Cx} {C : Ct} {e elt tg iter : Expr} {ifs : List Expr} {pos : Pos}
theorem c_nil : PTs X ifs tYes → PTs X ifs (tT C (M.ret true)) := fun h => ⟨fun pins s σ H Q I ⟨F, ρ, sr, p⟩ => h.run pins s σ H Q I (p F H true Grow.refl sr rfl)⟩
theorem c_none : PTs X [] (tT C (M.ret true)) := c_nil pts_nil
theorem c_one {c : Expr} {m : M Bool} (h : PT X c (tT C m)) : PTs X [c] (tT C m) := pts_one h
/-- the slots that a block leaves alone -/
def outs (n : Nat) (vs : List Nat) : List Nat := (List.range n).filter fun i => !vs.contains i
theorem mem_outs {n j : Nat} {vs : List Nat} (h : j < n) (q : j ∉ vs) : j ∈ outs n vs := by
  unfold outs
  rw [List.mem_filter]
  exact ⟨List.mem_range.mpr h, by simpa using q⟩
theorem lc_read {g : TG} {t : Tgt} {src : M (List PyData)} {mt : M Bool} {me : M PyData} {vs : List Nat} {n : Nat} {σ : St} {H : Hp} {Q : VK} (hn : σ.length = n) (ht : TgOk C.quiet (outs n vs) n g t)
    (h : tO C (mComp src t mt me vs) σ H Q) : tLc (tI C src) g (tT C.quiet mt) (tD C.quiet me) vs σ H Q := by
  obtain ⟨F, ρ, sr, p⟩ := h
  refine ⟨F, ρ, sr, p.part fun xs ρ1 F1 H1 J e1 q1 g1 s1 wk => fun D hD => ?_⟩
  have q1 := q1.on stb_O g1
  -- the whole run
  obtain ⟨accF, ρF, eF, hlF⟩ : ∃ accF ρF, lcGo t mt me vs xs [] ρ1 = .ok accF ρF ∧ ρF.length = ρ1.length := by
    cases e : lcGo t mt me vs xs [] ρ1 with
    | ok a r =>
      simp only [e] at q1
      split at q1
      · rename_i hz; exact ⟨a, r, rfl, hz⟩
      · exact q1.elim
    | _ => simp only [e] at q1; exact q1.elim
  simp only [eF, hlF, if_true] at q1
  have f1D : F1 D = none := s1.sub.free hD
  have nD1 : ¬ own (wipe σ vs) (wipeR ρ1 vs) D := fun z => by
    obtain ⟨_, u, hu⟩ := own.at (s1.wipes vs) z
    rw [hD] at hu; cases hu
  have sD : SR C.K F1 (upd H1 D (.lst [])) (wipe σ vs) (wipeR ρ1 vs) := (s1.fresh hD).wipes vs
  refine ⟨fun i m H' => m = xs.length - i ∧ i ≤ xs.length ∧ ∃ F' ρ' acc accV, SR C.K F' H' (wipe σ vs) (wipeR ρ' vs) ∧ Grow (own (wipe σ vs) (wipeR ρ1 vs)) (own (wipe σ vs) (wipeR ρ' vs)) F1 H1 F' H' ∧
    ¬ own (wipe σ vs) (wipeR ρ' vs) D ∧ F' D = none ∧ H' D = some (.lst accV) ∧ DVs C.K F' accV acc ∧ lcGo t mt me vs (xs.drop i) acc ρ' = .ok accF ρF,
    ⟨xs.length, by simp, Nat.zero_le _, F1, ρ1, [], [], sD, Grow.fresh hD, nD1, f1D, upd_same, .nil, by rw [List.drop_zero]; exact eF⟩, ?_⟩
  rintro i m H' ⟨rfl, hil, F', ρ', acc, accV, s', gw, nD, fD, eD, dv, er⟩
  obtain ⟨w1, w2⟩ := wk F' H' i gw.ext s'.sub
  by_cases hlt : i < xs.length
  · obtain ⟨x, ex⟩ : ∃ x, xs[i] = x := ⟨_, rfl⟩
    obtain ⟨go, yl⟩ := w2 x (by rw [← ex]; simp [hlt])
    rw [List.drop_eq_getElem_cons hlt, ex] at er
    simp only [lcGo] at er
    refine .inr ⟨go, fun H2 => ∃ F' ρ' acc accV, SR C.K F' H2 (wipe σ vs) (wipeR ρ' vs) ∧ Grow (own (wipe σ vs) (wipeR ρ1 vs)) (own (wipe σ vs) (wipeR ρ' vs)) F1 H1 F' H2 ∧
      ¬ own (wipe σ vs) (wipeR ρ' vs) D ∧ F' D = none ∧ H2 D = some (.lst accV) ∧ DVs C.K F' accV acc ∧ lcGo t mt me vs (xs.drop (i + 1)) acc ρ' = .ok accF ρF, fun H2 h2 => ⟨xs.length - (i + 1), by omega, rfl, by omega, h2⟩, fun v H2 y => ?_⟩
    obtain ⟨F2, al⟩ := yl v H2 y
    cases et : t x (wipeR ρ' vs) with
    | none => simp only [et] at er; cases er
    | some ρ2 =>
      simp only [et] at er
      have st : SR C.K F2 H2 (wipe σ vs) (wipeR ρ' vs) ∧ Grow (own (wipe σ vs) (wipeR ρ' vs)) (own (wipe σ vs) (wipeR ρ' vs)) F' H' F2 H2 ∧ DV C.K F2 v x ∧ F2 D = none ∧ H2 D = some (.lst accV) := by
        cases al with
        | asis h => exact ⟨s', Grow.refl, h, fD, eD⟩
        | tup hp h =>
          have fp := s'.sub.free hp
          have ne := ne_of_none eD hp
          exact ⟨s'.laid hp, Grow.laid hp fp, .tup (.inl (.inl upd_same)) (h.upd fp), by rw [upd_ne ne]; exact fD, by rw [upd_ne ne]; exact eD⟩
      obtain ⟨s2, g2, dx, fD2, eD2⟩ := st
      refine ht v x (wipe σ vs) (wipeR ρ' vs) ρ2 F2 H2 _ (by rw [wipe_length]; exact hn) s2 dx et fun σ3 s3 o3 p3 => ?_
      have ew : wipe σ3 vs = wipe σ vs := by
        rw [← wipe_wipe σ vs]
        exact wipe_ext p3.1 fun j hj q => p3.2 j (mem_outs (by rw [wipe_length, hn] at hj; exact hj) q)
      have g3 : Grow (own (wipe σ vs) (wipeR ρ' vs)) (own σ3 ρ2) F' H' F2 H2 := g2.less o3
      have nD3 : ¬ own σ3 ρ2 D := fun z => nD (o3 D z)
      refine ⟨ew, F2, ρ2, s3, ?_⟩
      -- behind the tests
      cases emt : mt ρ2 with
      | bad => simp only [emt] at er; cases er
      | ex x r => simp only [emt] at er; cases er
      | ok k ρ3 =>
        simp only [emt] at er
        intro F3 H3 k' g4 s4 ek
        subst ek
        have nD4 : ¬ own σ3 ρ3 D := fun z => (g4.ows D z).elim nD3 fun y => by rw [eD2] at y; cases y
        have fD4 : F3 D = none := by
          cases q : F3 D with
          | none => rfl
          | some u =>
            rcases g4.new D (by rw [q]; simp) with z | z | z
            · exact absurd fD2 z
            · rw [eD2] at z; cases z
            · exact absurd z nD3
        have eD4 : H3 D = some (.lst accV) := g4.keep D _ eD2 nD3
        have back : ∀ {F5 H5 : Hp} {ρ5 : Rho}, SR C.K F5 H5 σ3 ρ5 → SR C.K F5 H5 (wipe σ vs) (wipeR ρ5 vs) := fun {F5 H5 ρ5} s => by
          have := s.wipes vs
          rw [ew] at this
          exact this
        have lessW : ∀ {ρ5 : Rho} {b : Addr}, own (wipe σ vs) (wipeR ρ5 vs) b → own σ3 ρ5 b := fun {ρ5 b} z => by
          rw [← ew] at z
          exact (own.wipes z).1
        cases k' with
        | false =>
          simp only at er
          rw [if_neg Bool.false_ne_true]
          exact ⟨F3, ρ3, acc, accV, back s4, (gw.trans (g3.trans g4)).less fun b z => lessW z, fun z => nD4 (lessW z), fD4, eD4, DVs.mono (g3.trans g4).ext dv, er⟩
        | true =>
          simp only at er
          rw [if_pos rfl]
          refine ⟨F3, ρ3, s4, ?_⟩
          cases eme : me ρ3 with
          | bad => simp only [eme] at er; cases er
          | ex x r => simp only [eme] at er; cases er
          | ok d ρ5 =>
            simp only [eme] at er
            split at er
            · rename_i hz
              intro F5 H5 y5 g5 s5 r5
              have nD5 : ¬ own σ3 ρ5 D := fun z => (g5.ows D z).elim nD4 fun y => by rw [eD4] at y; cases y
              have fD5 : F5 D = none := by
                cases q : F5 D with
                | none => rfl
                | some u =>
                  rcases g5.new D (by rw [q]; simp) with z | z | z
                  · exact absurd fD4 z
                  · rw [eD4] at z; cases z
                  · exact absurd z nD4
              have eD5 : H5 D = some (.lst accV) := g5.keep D _ eD4 nD4
              have gl := g3.trans (g4.trans g5)
              have s6 : SR C.K F5 (upd H5 D (.lst (accV ++ [y5]))) σ3 ρ5 := s5.on (Same.refl _) (fun b u q => by rw [upd_ne (ne_of_none q fD5)]; exact s5.sub b u q) fun a ha => by
                obtain ⟨fa, u, hu⟩ := own.at s5 ha
                exact ⟨fa, fun u' q => by rw [upd_ne (fun z => nD5 (by rw [← z]; exact ha))]; exact q⟩
              refine ⟨accV, eD5, by rw [dv.len]; exact hz, F5, ρ5, acc ++ [d], accV ++ [y5], back s6, ?_, fun z => nD5 (lessW z), fD5, upd_same, (DVs.mono gl.ext dv).append (.cons r5 .nil), er⟩
              have gall := gw.trans gl
              refine ⟨gall.ext, fun b o q n => ?_, gall.new, fun b z => gall.ows b (lessW z)⟩
              rw [upd_ne (ne_of_none q hD)]
              exact gall.keep b o q n
            · cases er
  · have ei : i = xs.length := by omega
    subst ei
    rw [List.drop_length] at er
    simp only [lcGo, M.ret] at er
    cases er
    obtain ⟨sf, gf⟩ := s1.rest s' hlF gw
    refine .inl ⟨w1 (Nat.le_refl _), q1 F' H' (.ref D) gf sf ⟨⟨D, accV, rfl, fD, eD, dv⟩, fun _ a ea => ?_⟩⟩
    cases ea
    refine ⟨fun z => ?_, .inl hD⟩
    rcases gf.ows D z with y | y
    · obtain ⟨_, u, hu⟩ := own.at s1 y
      rw [hD] at hu; cases hu
    · -- new and a slot's own: then one of the block's, which none is
      obtain ⟨j, o, e1, e2, e3⟩ := z
      by_cases q : j ∈ vs
      · obtain ⟨_, u, hu⟩ := own.at s1 ⟨j, o, restR_in q e1, e2, e3⟩
        rw [hD] at hu; cases hu
      · rw [restR_out q] at e1
        exact nD ⟨j, o, by rw [wipeR_out q]; exact e1, e2, by rw [wipe_out q]; exact e3⟩
theorem o_comp {g : TG} {t : Tgt} {src : M (List PyData)} {mt : M Bool} {me : M PyData} {n : Nat} {scope : Scope} {own : List (Str × Nat)} (hc : X.calm = true) (hN : X.N.Nodup) (hi : PI X tg iter (tI C src)) (ok : BlkOk X.N X.env.scope scope own)
    (hg : ∀ (s : Shared) (H : Hp) (D : Addr) (cl : List (Str × Addr)) (fp : List Addr), PG (X.blk s H scope (compEnvC scope cl D X.env) fp) tg g) (htg : TgOk C.quiet (outs n (own.map (·.2))) n g t)
    (ht : ∀ (s : Shared) (H : Hp) (D : Addr) (cl : List (Str × Addr)) (fp : List Addr), PTs (X.blk s H scope (compEnvC scope cl D X.env) fp) ifs (tT C.quiet mt))
    (he : ∀ (s : Shared) (H : Hp) (D : Addr) (cl : List (Str × Addr)) (fp : List Addr), PE (X.blk s H scope (compEnvC scope cl D X.env) fp) elt (tD C.quiet me)) (hL : X.N.length = n := by rfl) (hs : ∀ x, foldedSetIterable iter X.env x = pure x := by intro _; rfl) :
    PE X (.ListComp elt [⟨tg, iter, ifs, 0⟩] scope pos) (tO C (mComp src t mt me (own.map (·.2)))) :=
  ⟨fun pins s σ H Q I q => (pe_lc hc hN hi ok hg ht he hs).run pins s σ H Q I (lc_read (by rw [I.len, hL]) htg q)⟩
end
end Eg
namespace Eg
open PySem L2 PySem.W PySem.SeqAt
open PyProof.Rows (envOfC)
/-! ## defs, called while nothing is being written out -/
structure FnG (P : Program) (w : World) (K : PySem.W.Frag) (mg : Str → Option Value) (base : Heap) (CX : CXT) (k : Nat) (f : Addr) (fd : FuncData) (ps : List Str) (sp : Sp) : Prop where
  len : ∀ vs H Q E, sp vs H Q E → ps.length = vs.length
  run : ∀ (A : Around) (outer : List Env) (s : Shared) (H : Hp) (args : Args) (us : List Value) (vs : List V) (Q : VK) (E : XK), A.guards = some [] → Room k A → Env0 P w K mg base A outer s H → BindsTo s fd args (ps.zip us) → Vals vs us →
    sp vs H Q E → codeAny (model P w) A (.call (.ref f) args) (CR CX outer P w H s Q E) s
section
variable {P : Program} {w : World} {K : PySem.W.Frag} {mg : Str → Option Value} {base : Heap} {CX : CXT} {k : Nat}
theorem FnG.mono {j : Nat} {f : Addr} {fd : FuncData} {ps : List Str} {sp : Sp} (F : FnG P w K mg base CX j f fd ps sp) (h : j ≤ k) : FnG P w K mg base CX k f fd ps sp :=
  ⟨F.len, fun A outer s H args us vs Q E g r => F.run A outer s H args us vs Q E g (r.mono h)⟩
theorem deeper_guards (A : Around) (env : Env) : (A.deeper env).guards = A.guards := rfl
theorem fnG_of {x qual : Str} {st : Stmt} {f : Addr} {fd : FuncData} {N ps : List Str} {sp : Sp} (F : Fun K x qual st f fd) (S : FnScope N ps (defScope st)) (hlen : ∀ vs H Q E, sp vs H Q E → ps.length = vs.length)
    (hb : ∀ (cdv : Value) (A : Around) (outer : List Env) (s : Shared) (H : Hp) (vs : List V) (Q : VK) (E : XK), A.guards = some [] → Room k (A.deeper (envOfC qual (defScope st) s.heap.objs.size f cdv)) → sp vs H Q E →
      ∃ t, PSs (cxOf CX P w K mg base N qual (defScope st) f cdv A outer s H E) (defBody st) t ∧ t { nx := fun _ H' => Q .non H', rt := Q } (start N vs) H) : FnG P w K mg base CX (k + 1) f fd ps sp := by
  obtain ⟨oc, od, kV, doc, pm, an, cdv, ct, osl, rfl, lk, hcd⟩ := F.ex
  refine ⟨hlen, fun A outer s H args us vs Q E hg hr e0 bd rv h => ?_⟩
  have hl := (hlen vs H Q E h).symm
  have inK : K.In s.heap := e0.mod.kin.keeps fun b o e => (e0.bs b o e).1
  have par : ∀ y ∈ ps.zip us, (defScope st).names.lookup y.1 = some .local ∨ ((defScope st).names.lookup y.1 = some .cell ∧ ((cellsFrom (s.heap.objs.size + 1) (defScope st).names []).lookup y.1).isSome = true) := fun y hy =>
    (S.par y.1 (List.of_mem_zip (a := y.1) (b := y.2) hy).1).imp id fun q => ⟨q, PySem.W.cellsFrom_some _ _ _ (.inl q)⟩
  refine codeAny_call_function hr.depth (inK _ _ lk) rfl S.co S.gen rfl (PySem.W.codeRec_of inK hcd) (bd _ _ _ _ (wpAny_newFunctionEnv_cells S.kind par fun env he s1 x => ?_))
  subst he
  refine ⟨(e0.mod.nolimit.keeps fun b o e => (e0.bs b o e).1).keeps x.toInCall.keep, codeAny_func ?_⟩
  obtain ⟨t, ht, hq⟩ := hb cdv A outer s H vs Q E hg (hr.deeper _) h
  have I : Inv (cxOf CX P w K mg base N qual (defScope st) f cdv A outer s H E) [] (start N vs) H s1 := inv_start S hr.hd e0 hl rv x
  refine wpAny_mono (ht.run [] s1 _ H _ I hq) (fun fl s' q => ?_) fun _ _ q => q
  match fl, q with
  | .ret u, ⟨v, σ', H', J, r, q⟩ => exact ⟨v, H', J.os, J.bare, J.base, J.hok, r, q⟩
  | .next, ⟨σ', H', J, q⟩ => exact ⟨.non, H', J.os, J.bare, J.base, J.hok, rfl, q⟩
  | .brk, ⟨_, _, _, q⟩ => exact q.elim
  | .cont, ⟨_, _, _, q⟩ => exact q.elim
end
section
variable {X : Cx} {C : Ct} {e a b : Expr} {es : List Expr} {pos p : Pos} {CX : CXT} {k : Nat} {f : Addr} {fd : FuncData} {ps : List Str} {sp : Sp} {x : Str}
theorem run_G {pins : List (Addr × Obj)} {σ : St} {H : Hp} {s : Shared} {Q : VK} {us : List Value} {vs : List V} {ds : List Value} {E : XK} (F : FnG X.prog X.w X.K X.mg X.base CX k f fd ps sp) (hg : X.A.guards = some []) (hr : Room k X.A) (hb : Binds X.K fd ps ds) (hx : PassesAt CX X σ E)
    (I : Inv X pins σ H s) (r : Vals vs (us ++ ds)) (h : sp vs H Q E) : wpAny (model X.prog X.w) X.A (call (.ref f) us) (EP X pins σ Q) X.xe s := by
  have hl : (us ++ ds).length = ps.length := by rw [← r.length]; exact (F.len _ _ _ _ h).symm
  refine wpAny_call (codeAny_mono (F.run X.A X.stack s H ⟨us, []⟩ (us ++ ds) vs Q E hg hr I.env0 (hb s us I.kIn hl) r h) fun res s' q => ?_)
  match res, q with
  | .error e, q => exact hx pins H s e s' I q
  | .ok (.ret u), q => exact I.after q
/-! ## a def's meaning: its arguments' slots in, the thing told and the slots it may change out -/
abbrev Fn := M OD
/-- a def's promise: m on its arguments -/
def spI (K : PySem.W.Frag) (w : World) (XR : Hp → Hp → Value → Option Addr → Xc → Prop) (n : Nat) (m : Fn) : Sp := fun vs H Q E => vs.length = n ∧ ∃ (F : Hp) (os : List OD), SR ⟨K, w⟩ F H (vs.map some) (os.map some) ∧ PostE ⟨⟨K, w⟩, fun cls d _ H' => E cls d H', XR⟩ (rO ⟨K, w⟩) (vs.map some) (os.map some) F H Q (m (os.map some))
/-- the slots that a def may change stay, the others are not told of -/
def keepIo (io : List Bool) (ρ : Rho) : Rho := List.zipWith (fun b o => if b = true then o else none) io ρ
def fnM (n : Nat) (io : List Bool) (body : M Out) : Fn := fun ρ => match body (ρ ++ List.replicate n none) with
  | .ok (.rt r) ρ' => .ok r (keepIo io ρ')
  | .ok .nx ρ' => .ok (.sh .none) (keepIo io ρ')
  | .ex x ρ' => .ex x (keepIo io ρ')
  | _ => .bad
def ioIx (io : List Bool) : List Nat := (List.range io.length).filter fun i => io.getD i false
theorem keepIo_at {io : List Bool} {ρ : Rho} {j : Nat} {o : OD} (h : (keepIo io ρ)[j]? = some (some o)) : ρ[j]? = some (some o) ∧ j ∈ ioIx io ∧ j < io.length := by
  unfold keepIo at h
  rw [List.getElem?_zipWith] at h
  cases e1 : io[j]? with
  | none => rw [e1] at h; cases h
  | some b =>
    cases e2 : ρ[j]? with
    | none => rw [e1, e2] at h; cases h
    | some x =>
      rw [e1, e2] at h
      cases b with
      | false => cases h
      | true =>
        have hl : j < io.length := (List.getElem?_eq_some_iff.mp e1).1
        refine ⟨by simpa using h, ?_, hl⟩
        unfold ioIx
        rw [List.mem_filter]
        exact ⟨List.mem_range.mpr hl, by simp [List.getD, e1]⟩
theorem SR.start {K : Kw} {F H : Hp} {vs : List V} {os : List OD} (s : SR K F H (vs.map some) (os.map some)) (m : Nat) : SR K F H (vs.map some ++ List.replicate m none) (os.map some ++ List.replicate m none) ∧
    ∀ b, own (vs.map some ++ List.replicate m none) (os.map some ++ List.replicate m none) b → own (vs.map some) (os.map some) b := by
  have hl : os.length = vs.length := by have := s.len; simpa using this
  have lo : ∀ {j : Nat} {o : OD}, (os.map some ++ List.replicate m (none : Option OD))[j]? = some (some o) → j < os.length ∧ (os.map some)[j]? = some (some o) := fun {j o} h => by
    by_cases q : j < os.length
    · rw [List.getElem?_append_left (by simpa using q)] at h; exact ⟨q, h⟩
    · rw [List.getElem?_append_right (by simpa using Nat.le_of_not_lt q)] at h
      rw [List.getElem?_replicate] at h
      split at h <;> cases h
  have ro : ∀ {j : Nat}, j < os.length → (vs.map some ++ List.replicate m (none : Option V))[j]? = (vs.map some)[j]? := fun {j} q => List.getElem?_append_left (by simpa [← hl] using q)
  refine ⟨⟨s.sub, by simp [hl], fun j o h => ?_, fun j k o o' a ne h1 i1 h2 i2 h3 h4 => ?_⟩, fun b ⟨j, o, e1, e2, e3⟩ => ?_⟩
  · obtain ⟨q, e⟩ := lo h
    rw [ro q]
    exact s.sl j o e
  · obtain ⟨q1, e1⟩ := lo h1
    obtain ⟨q2, e2⟩ := lo h2
    rw [ro q1] at h3
    rw [ro q2] at h4
    exact s.sep j k o o' a ne e1 i1 e2 i2 h3 h4
  · obtain ⟨q, e⟩ := lo e1
    rw [ro q] at e3
    exact ⟨j, o, e, e2, e3⟩
/-- a def's end: its frame is gone, the slots that it may change are told of -/
theorem SR.finish {K : Kw} {F H F' H' : Hp} {vs : List V} {os : List OD} {m : Nat} {io : List Bool} {σ' : St} {ρ' : Rho} (hn : vs.length = io.length) (s : SR K F H (vs.map some) (os.map some)) (s' : SR K F' H' σ' ρ')
    (g : Grow (own (vs.map some ++ List.replicate m none) (os.map some ++ List.replicate m none)) (own σ' ρ') F H F' H') (pr : Pres (vs.map some ++ List.replicate m none) σ' (ioIx io)) :
    SR K F' H' (vs.map some) (keepIo io ρ') ∧ Grow (own (vs.map some) (os.map some)) (own (vs.map some) (keepIo io ρ')) F H F' H' ∧ ∀ b, own (vs.map some) (keepIo io ρ') b → own σ' ρ' b := by
  have at' : ∀ {j : Nat}, j ∈ ioIx io → σ'[j]? = (vs.map some)[j]? := fun {j} h => by
    rw [pr.2 j h]
    have : j < io.length := List.mem_range.mp (List.mem_filter.mp h).1
    exact List.getElem?_append_left (by simpa [hn] using this)
  have ow : ∀ b, own (vs.map some) (keepIo io ρ') b → own σ' ρ' b := fun b ⟨j, o, e1, e2, e3⟩ => by
    obtain ⟨k1, k2, _⟩ := keepIo_at e1
    exact ⟨j, o, k1, e2, by rw [at' k2]; exact e3⟩
  have hlen : σ'.length = vs.length + m := by rw [pr.1]; simp
  refine ⟨⟨s'.sub, ?_, fun j o h => ?_, fun j k o o' a ne h1 i1 h2 i2 h3 h4 => ?_⟩, ((g.wide (s.start m).2).less ow), ow⟩
  · unfold keepIo
    rw [List.length_zipWith, s'.len, hlen, List.length_map, hn]
    omega
  · obtain ⟨k1, k2, _⟩ := keepIo_at h
    obtain ⟨v, e, r⟩ := s'.sl j o k1
    exact ⟨v, by rw [← at' k2]; exact e, r⟩
  · obtain ⟨k1, k2, _⟩ := keepIo_at h1
    obtain ⟨l1, l2, _⟩ := keepIo_at h2
    exact s'.sep j k o o' a ne k1 i1 l1 i2 (by rw [at' k2]; exact h3) (by rw [at' l2]; exact h4)
section
variable {P : Program} {w : World} {K : PySem.W.Frag} {mg : Str → Option Value} {base : Heap} {k : Nat} {XR : Hp → Hp → Value → Option Addr → Xc → Prop}
/-- THE RULE for a def -/
theorem okI {x qual : Str} {st : Stmt} {f : Addr} {fd : FuncData} {N ps : List Str} {body : M Out} (io : List Bool) (F : Fun K x qual st f fd) (S : FnScope N ps (defScope st)) (hps : ps.length = io.length) (hN : io.length ≤ N.length)
    (hb : ∀ (cdv : Value) (A : Around) (outer : List Env) (s : Shared) (H : Hp) (E : XK), A.guards = some [] → Room k (A.deeper (envOfC qual (defScope st) s.heap.objs.size f cdv)) →
      PSs (cxOf (L2.CX P w) P w K mg base N qual (defScope st) f cdv A outer s H E) (defBody st) (tS ⟨⟨K, w⟩, fun cls d _ H' => E cls d H', XR⟩ (ioIx io) body)) :
    FnG P w K mg base (L2.CX P w) (k + 1) f fd ps (spI K w XR io.length (fnM (N.length - io.length) io body)) := by
  refine fnG_of F S (fun vs H Q E h => (h.1.trans hps.symm).symm) fun cdv A outer s H vs Q E hg hr h => ⟨_, hb cdv A outer s H E hg hr, ?_⟩
  obtain ⟨hn, F0, os, sr, p⟩ := h
  have est : L2.start N vs = vs.map some ++ List.replicate (N.length - io.length) none := by unfold L2.start; rw [hn]
  have s0 := sr.start (N.length - io.length)
  rw [est]
  refine ⟨F0, os.map some ++ List.replicate (N.length - io.length) none, s0.1, ?_⟩
  unfold fnM at p
  cases e : body (os.map some ++ List.replicate (N.length - io.length) none) with
  | bad => rw [e] at p; exact p
  | ex x ρ' =>
    rw [e] at p
    intro F' H' σ' cls d g s' pr xr
    obtain ⟨a1, a2, a3⟩ := sr.finish hn s' g pr
    exact p F' H' cls d a2 a1 xr
  | ok o ρ' =>
    rw [e] at p
    cases o with
    | nx =>
      intro F' H' σ' g s' pr
      obtain ⟨a1, a2, a3⟩ := sr.finish hn s' g pr
      exact p F' H' .non a2 a1 ⟨.non, fun z => by cases z⟩
    | rt r =>
      intro F' H' σ' v g s' pr ro nn
      obtain ⟨a1, a2, a3⟩ := sr.finish hn s' g pr
      exact p F' H' v a2 a1 ⟨ro, fun io a ea => ⟨fun z => (nn io a ea).1 (a3 a z), (nn io a ea).2.imp id (s0.2 a)⟩⟩
    | bk => exact p.elim
    | ct => exact p.elim
end
/-! ## calls of defs -/
def argO (ρ : Rho) : Arg → Option OD
  | .dat d => some (.sh d)
  | .slot i => (ρ[i]?).join
/-- an argument that nobody owns -/
def argS (ρ : Rho) (a : Arg) : Option OD := match argO ρ a with
  | some (.sh d) => some (.sh d)
  | some (.sc ns) => some (.sc ns)
  | some (.sn kvs) => some (.sn kvs)
  | _ => none
def argsS (ρ : Rho) : List Arg → Option (List OD)
  | [] => some []
  | a :: as => do (← argS ρ a) :: (← argsS ρ as)
theorem argO_at {K : Kw} {F H : Hp} {σ : St} {ρ : Rho} {v : V} {a : Arg} {o : OD} {ρ0 : Rho} {H0 : Hp} (s : SR K F H σ ρ) (h : rA K F H σ ρ ρ0 H0 v a) (e : argO ρ a = some o) : OR K F H v o := by
  cases a with
  | dat d => cases e; exact h
  | slot i =>
    simp only [argO] at e
    cases q : ρ[i]? with
    | none => rw [q] at e; cases e
    | some x =>
      rw [q] at e
      have ex : x = some o := e
      subst ex
      obtain ⟨w, ew, r⟩ := s.sl i o q
      have h : σ[i]? = some (some v) := h
      rw [h] at ew; cases ew
      exact r
theorem argsS_at {K : Kw} {F H : Hp} {σ : St} {ρ : Rho} (s : SR K F H σ ρ) : ∀ {vs : List V} {as : List Arg} {os : List OD}, rAs K F σ vs as → argsS ρ as = some os → os.length = vs.length ∧ ∀ (j : Nat) (o : OD), os[j]? = some o → o.isO = false ∧ ∃ v, vs[j]? = some v ∧ OR K F H v o := fun {vs as} => by
  induction vs generalizing as with
  | nil => intro os r e; cases r; cases e; exact ⟨rfl, fun j o h => by simp at h⟩
  | cons v vs ih =>
    intro os r e
    have hd : ∃ a as', as = a :: as' ∧ rA K F H σ ρ ρ H v a ∧ rAs K F σ vs as' := by
      cases r with
      | dat h t => exact ⟨_, _, rfl, h, t⟩
      | slot h t => exact ⟨_, _, rfl, h, t⟩
    obtain ⟨a, as', rfl, ha, ht⟩ := hd
    simp only [argsS] at e
    cases e1 : argS ρ a with
    | none => rw [e1] at e; cases e
    | some o =>
      cases e2 : argsS ρ as' with
      | none => rw [e1, e2] at e; cases e
      | some os' =>
        rw [e1, e2] at e; cases e
        obtain ⟨h1, h2⟩ := ih ht e2
        refine ⟨by rw [List.length_cons, List.length_cons, h1], fun j o' h => ?_⟩
        cases j with
        | zero =>
          cases h
          unfold argS at e1
          cases e3 : argO ρ a with
          | none => rw [e3] at e1; cases e1
          | some o2 =>
            rw [e3] at e1
            have r := argO_at s ha e3
            cases o2 <;> cases e1 <;> exact ⟨rfl, v, rfl, r⟩
        | succ j => exact h2 j o' h
end
/-- a call whose arguments nobody owns -/
def mCall (f : Fn) (ms : M (List Arg)) : M OD := ms.bind fun as => fun ρ => match argsS ρ as with
  | some os => (match f (os.map some) with
    | .ok r _ => .ok r ρ
    | .ex x _ => .ex x ρ
    | .bad => .bad)
  | none => .bad
end Eg
namespace Eg
open PySem L2 PySem.W PySem.SeqAt
open PyProof.Rows (envOfC)
/-- a call: its arguments from the left, the first may be a slot that is its own -/
def mCallO (f : Fn) (ms : M (List Arg)) : M OD := ms.bind fun as => fun ρ => match as with
  | .slot i :: as' => (match ρ[i]?, argsS ρ as' with
    | some (some o), some os => if o.isO = true then (match f ((o :: os).map some) with
      | .ok r ρa => .ok r (ρ.set i (ρa[0]?.join))
      | .ex x ρa => .ex x (ρ.set i (ρa[0]?.join))
      | .bad => .bad) else .bad
    | _, _ => .bad)
  | _ => .bad
section
variable {K : Kw} {F F' H H' : Hp} {σ : St} {ρ ρa : Rho} {xs : List V} {os : List OD}
theorem SR.args (s : SR K F H σ ρ) (hl : os.length = xs.length) (h : ∀ (j : Nat) (o : OD), os[j]? = some o → o.isO = false ∧ ∃ v, xs[j]? = some v ∧ OR K F H v o) : SR K F H (xs.map some) (os.map some) ∧ ∀ b, ¬ own (xs.map some) (os.map some) b := by
  have lo : ∀ {j : Nat} {o : OD}, (os.map some)[j]? = some (some o) → os[j]? = some o := fun {j o} e => by
    rw [List.getElem?_map] at e
    cases q : os[j]? with
    | none => rw [q] at e; cases e
    | some z => rw [q] at e; cases e; rfl
  refine ⟨⟨s.sub, by simp [hl], fun j o e => ?_, fun j k o o' a ne e i1 => ?_⟩, fun b ⟨j, o, e, i1, _⟩ => ?_⟩
  · obtain ⟨_, v, e1, r⟩ := h j o (lo e)
    exact ⟨v, by rw [List.getElem?_map, e1]; rfl, r⟩
  · rw [(h j o (lo e)).1] at i1; cases i1
  · rw [(h j o (lo e)).1] at i1; cases i1
/-- a call that owns nothing is over -/
theorem SR.after0 (s : SR K F H σ ρ) {σ1 : St} {ρ1 : Rho} (no : ∀ b, ¬ own σ1 ρ1 b) {σ2 : St} {ρ2 : Rho} (g : Grow (own σ1 ρ1) (own σ2 ρ2) F H F' H') (sub : Same F' H') : SR K F' H' σ ρ ∧ Grow (own σ ρ) (own σ ρ) F H F' H' := by
  refine ⟨s.on g.ext sub fun a ha => ?_, ⟨g.ext, fun b o e _ => g.keep b o e (no b), fun b h => ?_, fun b h => .inl h⟩⟩
  · obtain ⟨h1, u, h2⟩ := own.at s ha
    refine ⟨?_, fun u' h => g.keep a u' h (no a)⟩
    cases q : F' a with
    | none => rfl
    | some z =>
      rcases g.new a (by rw [q]; simp) with w | w | w
      · exact absurd h1 w
      · rw [h2] at w; cases w
      · exact absurd w (no a)
  · rcases g.new b h with w | w | w
    · exact .inl w
    · exact .inr (.inl w)
    · exact absurd w (no b)
end
section
variable {X : Cx} {C : Ct} {e a b : Expr} {es : List Expr} {pos p : Pos} {k : Nat} {f : Addr} {fd : FuncData} {ps : List Str} {x : Str} {n : Nat} {m : Fn}
/-- the call itself, its arguments made -/
theorem o_call1 {ms : M (List Arg)} {G : (M (List Arg)) → M OD} (F : FnG X.prog X.w X.K X.mg X.base (L2.CX X.prog X.w) k f fd ps (spI X.K X.w C.XR n m)) (hG : X.A.guards = some []) (hr : Room k X.A) (hg : Gl X x) (hm : X.mg x = some (.ref f)) (hk : PySem.W.keepIn X.K (.ref f) = true) (hb : Binds X.K fd ps []) (tk : Takes X C.W) (ha : PA X (e :: es) (tL C ms))
    (hs : ∀ (σ : St) (ρ : Rho) (F0 H : Hp) (Q : VK), SR C.K F0 H σ ρ → PostE C (rO C.K) σ ρ F0 H Q (G ms ρ) → PostE C (rL C.K) σ ρ F0 H (fun vs H1 => spI X.K X.w C.XR n m vs H1 Q (WE C.W σ)) (ms ρ))
    (hdb : (x == ("__debug__" : Str)) = false := by decide) (he : starEach (e :: es) X.env = (false, eval e X.env) :: starEach es X.env := by rfl) (hpl : (backTo pos (starEach es X.env)).any (·.1) = false := by rfl) : PE X (.Call (.Name x p) (e :: es) [] pos) (tO C (G ms)) := by
  refine ⟨fun pins s σ H Q I ⟨F0, ρ, sr, pp⟩ => ?_⟩
  refine wpAny_Call_Name_kw (ld_glob I hg hm ?_ hdb)
  refine PySem.W.callWith_K (h₀ := X.base) I.ok.mod.kin hk (thn (ha.run pos pins s σ H _ I ⟨F0, ρ, sr, hs σ ρ F0 H Q sr pp⟩) fun us s1 ⟨vs, H1, I1, r, q⟩ => ⟨I1.kIn, ?_⟩) he hpl
  exact run_G (ds := []) (E := WE C.W σ) F hG hr hb (passAt tk σ) I1 (by rw [List.append_nil]; exact r) q
theorem o_fn {ms : M (List Arg)} (F : FnG X.prog X.w X.K X.mg X.base (L2.CX X.prog X.w) k f fd ps (spI X.K X.w C.XR n m)) (hG : X.A.guards = some []) (hr : Room k X.A) (hg : Gl X x) (hm : X.mg x = some (.ref f)) (hk : PySem.W.keepIn X.K (.ref f) = true) (hb : Binds X.K fd ps []) (tk : Takes X C.W) (ha : PA X (e :: es) (tL C ms)) (hl : (e :: es).length = n)
    (hll : ∀ ρ as ρ', ms ρ = .ok as ρ' → as.length = n)
    (hdb : (x == ("__debug__" : Str)) = false := by decide) (he : starEach (e :: es) X.env = (false, eval e X.env) :: starEach es X.env := by rfl) (hpl : (backTo pos (starEach es X.env)).any (·.1) = false := by rfl) (hK : X.KW = C.K := by rfl) : PE X (.Call (.Name x p) (e :: es) [] pos) (tO C (mCall m ms)) := by
  refine o_call1 (G := mCall m) F hG hr hg hm hk hb tk ha (fun σ ρ F0 H Q sr pp => ?_) hdb he hpl
  refine PostE.part (RA := rL C.K) pp fun as ρ1 F1 H1 xs e1 q1 g1 s1 r1 => ?_
  have q1 := q1.on stb_O g1
  cases e2 : argsS ρ1 as with
  | none => simp only [e2] at q1; exact q1.elim
  | some os =>
    simp only [e2] at q1
    obtain ⟨h1, h2⟩ := argsS_at s1 r1 e2
    obtain ⟨sa, no⟩ := SR.args s1 h1 h2
    refine ⟨by rw [r1.len]; exact hll _ _ _ e1, F1, os, (show (⟨X.K, X.w⟩ : Kw) = C.K from hK) ▸ sa, ?_⟩
    rw [show (⟨X.K, X.w⟩ : Kw) = C.K from hK]
    cases e3 : m (os.map some) with
    | bad => simp only [e3] at q1; exact q1.elim
    | ok r ρa =>
      simp only [e3] at q1
      intro F' H' v g' s' ro
      obtain ⟨s2, g2⟩ := s1.after0 no g' s'.sub
      refine q1 F' H' v g2 s2 ⟨ro.1, fun io a ea => ?_⟩
      have hn : H1 a = none := ((ro.2 io a ea).2).resolve_right (no a)
      refine ⟨fun z => ?_, .inl hn⟩
      obtain ⟨_, u, hu⟩ := own.at s1 z
      rw [hn] at hu; cases hu
    | ex y ρa =>
      simp only [e3] at q1
      intro F' H' cls d g' s' xr
      obtain ⟨s2, g2⟩ := s1.after0 no g' s'.sub
      exact q1 F' H' cls d g2 s2 xr
theorem o_fnO {ms : M (List Arg)} (F : FnG X.prog X.w X.K X.mg X.base (L2.CX X.prog X.w) k f fd ps (spI X.K X.w C.XR n m)) (hG : X.A.guards = some []) (hr : Room k X.A) (hg : Gl X x) (hm : X.mg x = some (.ref f)) (hk : PySem.W.keepIn X.K (.ref f) = true) (hb : Binds X.K fd ps []) (tk : Takes X C.W) (ha : PA X (e :: es) (tL C ms)) (hl : (e :: es).length = n)
    (hll : ∀ ρ as ρ', ms ρ = .ok as ρ' → as.length = n)
    (hdb : (x == ("__debug__" : Str)) = false := by decide) (he : starEach (e :: es) X.env = (false, eval e X.env) :: starEach es X.env := by rfl) (hpl : (backTo pos (starEach es X.env)).any (·.1) = false := by rfl) (hK : X.KW = C.K := by rfl) : PE X (.Call (.Name x p) (e :: es) [] pos) (tO C (mCallO m ms)) := by
  refine o_call1 (G := mCallO m) F hG hr hg hm hk hb tk ha (fun σ ρ F0 H Q sr pp => ?_) hdb he hpl
  refine PostE.part (RA := rL C.K) pp fun as ρ1 F1 H1 xs e1 q1 g1 s1 r1 => ?_
  have q1 := q1.on stb_O g1
  have len1 := hll _ _ _ e1
  cases r1 with
  | nil => exact q1.elim
  | dat _ _ => exact q1.elim
  | @slot x0 i xs as hv rt =>
    simp only at q1
    cases e0 : ρ1[i]? with
    | none => simp only [e0] at q1; exact q1.elim
    | some oo =>
      cases oo with
      | none => simp only [e0] at q1; exact q1.elim
      | some o =>
        cases e2 : argsS ρ1 as with
        | none => simp only [e0, e2] at q1; exact q1.elim
        | some os =>
          simp only [e0, e2] at q1
          split at q1
          · rename_i io
            obtain ⟨h1, h2⟩ := argsS_at s1 rt e2
            obtain ⟨v0, ev0, or0⟩ := s1.sl i o e0
            rw [hv] at ev0; cases ev0
            have lo : ∀ {j : Nat} {u : OD}, ((o :: os).map some)[j]? = some (some u) → (j = 0 ∧ u = o) ∨ (∃ j', j = j' + 1 ∧ os[j']? = some u) := fun {j u} e => by
              cases j with
              | zero => simp at e; exact .inl ⟨rfl, e.symm⟩
              | succ j => exact .inr ⟨j, rfl, by simpa using e⟩
            have sa : SR C.K F1 H1 ((x0 :: xs).map some) ((o :: os).map some) := by
              refine ⟨s1.sub, by simp [h1], fun j u e => ?_, fun j k u u' c ne e i1 e' i2 => ?_⟩
              · rcases lo e with ⟨rfl, rfl⟩ | ⟨j', rfl, e5⟩
                · exact ⟨x0, rfl, or0⟩
                · obtain ⟨_, v, e1, r⟩ := h2 _ _ e5
                  exact ⟨v, by simpa using e1, r⟩
              · rcases lo e with ⟨rfl, rfl⟩ | ⟨j', rfl, e5⟩
                · rcases lo e' with ⟨rfl, rfl⟩ | ⟨k', rfl, e6⟩
                  · exact absurd rfl ne
                  · rw [(h2 _ _ e6).1] at i2; cases i2
                · rw [(h2 _ _ e5).1] at i1; cases i1
            have oi : ∀ b, own ((x0 :: xs).map some) ((o :: os).map some) b → x0 = .ref b := fun b ⟨j, u, e, i1, e'⟩ => by
              rcases lo e with ⟨rfl, rfl⟩ | ⟨j', rfl, e5⟩
              · simpa using e'
              · rw [(h2 _ _ e5).1] at i1; cases i1
            have oo : ∀ b, own ((x0 :: xs).map some) ((o :: os).map some) b → own σ ρ1 b := fun b z => ⟨i, o, e0, io, by rw [hv, oi b z]⟩
            have il : i < ρ1.length := (List.getElem?_eq_some_iff.mp e0).1
            -- behind it
            have aft : ∀ {F' H' : Hp} {ρa : Rho}, Grow (own ((x0 :: xs).map some) ((o :: os).map some)) (own ((x0 :: xs).map some) ρa) F1 H1 F' H' → SR C.K F' H' ((x0 :: xs).map some) ρa →
                SR C.K F' H' σ (ρ1.set i (ρa[0]?.join)) ∧ Grow (own σ ρ1) (own σ (ρ1.set i (ρa[0]?.join))) F1 H1 F' H' ∧ (∀ c, own σ (ρ1.set i (ρa[0]?.join)) c → own σ ρ1 c) ∧
                ∀ c, own σ (ρ1.set i (ρa[0]?.join)) c → own ((x0 :: xs).map some) ρa c ∨ (¬ x0 = .ref c ∧ own σ ρ1 c) := fun {F' H' ρa} g' s' => by
              have at' : ∀ {j : Nat} {u : OD}, (ρ1.set i (ρa[0]?.join))[j]? = some (some u) → (j = i ∧ ρa[0]? = some (some u)) ∨ (j ≠ i ∧ ρ1[j]? = some (some u)) := fun {j u} e => by
                by_cases q : i = j
                · subst q
                  rw [List.getElem?_set_self il] at e
                  have e := Option.some.inj e
                  refine .inl ⟨rfl, ?_⟩
                  cases q2 : ρa[0]? with
                  | none => rw [q2] at e; cases e
                  | some z => rw [q2] at e; exact congrArg some e
                · rw [List.getElem?_set_ne q] at e
                  exact .inr ⟨fun z => q z.symm, e⟩
              have ow1 : ∀ c, own σ (ρ1.set i (ρa[0]?.join)) c → own σ ρ1 c := fun c ⟨j, u, e, i1, e'⟩ => by
                rcases at' e with ⟨rfl, e5⟩ | ⟨ne5, e5⟩
                · exact ⟨j, o, e0, io, e'⟩
                · exact ⟨j, u, e5, i1, e'⟩
              refine ⟨⟨s'.sub, by rw [List.length_set]; exact s1.len, fun j u e => ?_, fun j k u u' c ne e i1 e' i2 e3 e4 => ?_⟩, ⟨g'.ext, fun b u e n => g'.keep b u e fun z => n (oo b z), fun b h => ?_, fun b h => .inl (ow1 b h)⟩, ow1, fun c ⟨j, u, e, i1, e'⟩ => ?_⟩
              · rcases at' e with ⟨rfl, e5⟩ | ⟨ne5, e5⟩
                · obtain ⟨v, e1, r⟩ := s'.sl 0 u e5
                  simp at e1; subst e1
                  exact ⟨x0, hv, r⟩
                · obtain ⟨v, e1, r⟩ := s1.sl j u e5
                  refine ⟨v, e1, r.keep g'.ext fun c ec iu => ?_⟩
                  subst ec
                  have nn : ¬ own ((x0 :: xs).map some) ((o :: os).map some) c := fun z => by
                    have := oi c z; subst this
                    exact s1.sep j i u o c ne5 e5 iu e0 io e1 hv
                  obtain ⟨f1, w, hw⟩ := own.at s1 ⟨j, u, e5, iu, e1⟩
                  refine ⟨?_, fun w' h => g'.keep c w' h nn⟩
                  cases q : F' c with
                  | none => rfl
                  | some z =>
                    rcases g'.new c (by rw [q]; simp) with w2 | w2 | w2
                    · exact absurd f1 w2
                    · rw [hw] at w2; cases w2
                    · exact absurd w2 nn
              · rcases at' e with ⟨rfl, e5⟩ | ⟨n1, e5⟩
                · rcases at' e' with ⟨rfl, e6⟩ | ⟨n2, e6⟩
                  · exact absurd rfl ne
                  · exact s1.sep j k o u' c ne e0 io e6 i2 e3 e4
                · rcases at' e' with ⟨rfl, e6⟩ | ⟨n2, e6⟩
                  · exact s1.sep j k u o c ne e5 i1 e0 io e3 e4
                  · exact s1.sep j k u u' c ne e5 i1 e6 i2 e3 e4
              · rcases g'.new b h with w | w | w
                · exact .inl w
                · exact .inr (.inl w)
                · exact .inr (.inr (oo b w))
              · rcases at' e with ⟨rfl, e5⟩ | ⟨ne5, e5⟩
                · rw [hv] at e'
                  have e' := Option.some.inj (Option.some.inj e')
                  exact .inl ⟨0, u, e5, i1, by rw [e']; rfl⟩
                · refine .inr ⟨fun z => ?_, ⟨j, u, e5, i1, e'⟩⟩
                  subst z
                  exact s1.sep j i u o c ne5 e5 i1 e0 io e' hv
            refine ⟨?_, F1, o :: os, (show (⟨X.K, X.w⟩ : Kw) = C.K from hK) ▸ sa, ?_⟩
            · have := rt.len
              rw [List.length_cons, this]; exact len1
            rw [show (⟨X.K, X.w⟩ : Kw) = C.K from hK]
            cases e3 : m ((o :: os).map some) with
            | bad => simp only [e3] at q1; exact q1.elim
            | ok r ρa =>
              simp only [e3] at q1
              intro F' H' v g' s' ro
              obtain ⟨s2, g2, a3, a4⟩ := aft g' s'
              refine q1 F' H' v g2 s2 ⟨ro.1, fun ir c ec => ?_⟩
              obtain ⟨n1, n2⟩ := ro.2 ir c ec
              refine ⟨fun z => ?_, n2.imp id (oo c)⟩
              rcases a4 c z with w | ⟨w1, w2⟩
              · exact n1 w
              · rcases n2 with n2 | n2
                · obtain ⟨_, u, hu⟩ := own.at s1 w2
                  rw [n2] at hu; cases hu
                · exact w1 (oi c n2)
            | ex y ρa =>
              simp only [e3] at q1
              intro F' H' cls d g' s' xr
              obtain ⟨s2, g2, a3, a4⟩ := aft g' s'
              exact q1 F' H' cls d g2 s2 xr
          · exact q1.elim
end
end Eg
namespace Eg
open PySem L2 PySem.W PySem.SeqAt
/-! ## dict displays -/
def mPairs : List (Str × M PyData) → M (List (Key × PyData))
  | [] => M.ret []
  | (k, m) :: r => m.bind fun d => (mPairs r).bind fun ds => M.ret ((.inr k, d) :: ds)
def dMerge (kvs more : List (Key × PyData)) : List (Key × PyData) := more.foldl (fun acc kv => dPut acc kv.1 kv.2) kvs
def mDisp (l : List (Str × M PyData)) : M OD := (mPairs l).bind fun ds => M.ret (.od (dMerge [] ds))
theorem KD.merge {K : Kw} {H : Hp} : ∀ {es : List (Key × V)} {kvs : List (Key × PyData)} {es0 : List (Key × V)} {kvs0 : List (Key × PyData)}, KD K H es kvs → KD K H es0 kvs0 → KD K H (mergeK es0 es) (dMerge kvs0 kvs)
  | _, _, _, _, .nil, h => h
  | _, _, es0, kvs0, .cons (k := k) (v := v) (d := d) (es := es) (kvs := kvs) h t, h0 => by
    show KD K H (mergeK (putK es0 k v) es) (dMerge (dPut kvs0 k d) kvs)
    exact KD.merge t (KD.put h h0)
section
variable {X : Cx} {C : Ct} {e a b c o : Expr} {es : List Expr} {pos apos cpos pos' : Pos} {P : List Nat}
def trsOf (C : Ct) (l : List (Str × M PyData)) : List (TE × TE) := l.map fun p => (tD C (M.ret (.str p.1)), tD C p.2)
def rPs (K : Kw) : Hp → Hp → St → Rho → Rho → Hp → List (V × V) → List (Key × PyData) → Prop := fun F' _ _ _ _ _ ps kds => ∃ es : List (Key × V), ps = es.map (fun kv => (kV kv.1, kv.2)) ∧ KD K F' es kds
theorem pairs_read : ∀ {l : List (Str × M PyData)} {σ : St} {F H : Hp} {ρ : Rho} {Q : List (V × V) → Hp → Prop}, SR C.K F H σ ρ → PostE C (rPs C.K) σ ρ F H Q (mPairs l ρ) → tPairs (trsOf C l) σ H Q
  | [], σ, F, H, ρ, Q, sr, p => p F H [] Grow.refl sr ⟨[], rfl, .nil⟩
  | (k, m) :: l, σ, F, H, ρ, Q, sr, p => by
    refine ⟨F, ρ, sr, fun F1 H1 x g1 s1 r1 => ?_⟩
    have ex : x = kV (.inr k) := by cases r1; rfl
    subst ex
    have st : Stb (rPs C.K) := fun _ _ _ _ _ _ _ _ _ _ _ _ _ r => r
    have p1 := p.on st g1
    refine ⟨F1, ρ, s1, p1.part fun d ρ2 F2 H2 y e2 q2 g2 s2 r2 => ?_⟩
    have q2 := q2.on st g2
    refine pairs_read s2 (q2.part fun ds ρ3 F3 H3 ps e3 q3 g3 s3 r3 => ?_)
    obtain ⟨es, ep, kd⟩ := r3
    exact q3 F3 H3 _ g3 s3 ⟨(.inr k, y) :: es, by rw [ep]; rfl, .cons (DV.mono g3.ext r2) kd⟩
theorem mPairs_len : ∀ {l : List (Str × M PyData)} {ρ ρ' : Rho} {ds : List (Key × PyData)}, mPairs l ρ = .ok ds ρ' → ds.length = l.length
  | [], _, _, _, e => by cases e; rfl
  | (k, m) :: l, ρ, ρ', ds, e => by
    simp only [mPairs, M.bind] at e
    cases e1 : m ρ with
    | bad => rw [e1] at e; cases e
    | ex _ _ => rw [e1] at e; cases e
    | ok d ρ1 =>
      rw [e1] at e
      simp only at e
      cases e2 : mPairs l ρ1 with
      | bad => rw [e2] at e; cases e
      | ex _ _ => rw [e2] at e; cases e
      | ok ds' ρ2 =>
        rw [e2] at e
        cases e
        rw [List.length_cons, List.length_cons, mPairs_len e2]
theorem o_disp {keys : List (Option Expr)} {values : List Expr} {l : List (Str × M PyData)} (h : PPs X pos keys values (trsOf C l)) (hall : keys.all (·.isSome) = true := by rfl) (hl : keys.length = values.length := by rfl) (h0 : keys ≠ [] := by exact List.cons_ne_nil _ _) (h15 : keys.length ≤ 15 := by decide)
    (hl2 : l.length ≤ 15 := by decide) : PE X (.Dict keys values pos) (tO C (mDisp l)) := by
  refine (pe_disp h hall hl h0 h15).imp fun σ H Q ⟨F, ρ, sr, p⟩ => fun d hd => ?_
  have n0 : ¬ own σ ρ d := fun z => by
    obtain ⟨_, u, hu⟩ := own.at sr z
    rw [hd] at hu; cases hu
  refine pairs_read (F := F) (ρ := ρ) (sr.fresh hd) ?_
  have g0 : Grow (own σ ρ) (own σ ρ) F H F (upd H d (.dK [])) := Grow.fresh hd
  unfold mDisp at p
  refine PostE.part (p.on stb_O g0) fun kds ρ1 F1 H1 ps e1 q1 g1 s1 r1 => ?_
  obtain ⟨es, ep, kd⟩ := r1
  have f1 : F1 d = none := by
    cases q : F1 d with
    | none => rfl
    | some u =>
      rcases g1.new d (by rw [q]; simp) with z | z | z
      · exact absurd (sr.sub.free hd) z
      · rw [upd_same] at z; cases z
      · exact absurd z n0
  have n1 : ¬ own σ ρ1 d := fun z => by
    rcases g1.ows d z with y | y
    · exact n0 y
    · rw [upd_same] at y; cases y
  refine ⟨g1.keep d _ upd_same n0, es, ep, ?_, ?_⟩
  · rw [kd.len, mPairs_len e1]; exact hl2
  · have s2 : SR C.K F1 (upd H1 d (.dK (mergeK [] es))) σ ρ1 := s1.on (Same.refl _) (fun b u q => by rw [upd_ne (ne_of_none q f1)]; exact s1.sub b u q) fun a ha => by
      obtain ⟨fa, u, hu⟩ := own.at s1 ha
      exact ⟨fa, fun u' q => by rw [upd_ne (fun z => n1 (by rw [← z]; exact ha))]; exact q⟩
    have q0 := p
    unfold M.bind at q0
    rw [e1] at q0
    have ga := g0.trans g1
    refine q0 F1 _ (.ref d) ⟨ga.ext, fun b u q n => ?_, ga.new, ga.ows⟩ s2 ⟨⟨d, mergeK [] es, rfl, f1, upd_same, kd.merge .nil⟩, fun _ a ea => by cases ea; exact ⟨n1, .inl hd⟩⟩
    rw [upd_ne (ne_of_none q hd)]
    exact ga.keep b u q n
theorem pp_nil : PPs X pos [] [] (trsOf C []) := pps_nil
theorem pp_cons {k : Str} {m : M PyData} {ks : List (Option Expr)} {vs : List Expr} {l : List (Str × M PyData)} {j p2} (hv : PE X e (tD C m)) (hr : PPs X pos ks vs (trsOf C l)) : PPs X pos (some (.Constant (.str k) j p2) :: ks) (e :: vs) (trsOf C ((k, m) :: l)) :=
  pps_cons d_str hv hr
/-! ## d[k] = v of a slot -/
def sPut (i : Nat) (mv mk : M PyData) : M Out := mv.bind fun d => mHas i (mk.bind fun kd => fun ρ => match keyD kd, ρ[i]? with
  | some k, some (some (.od kvs)) => if kvs.length < sizeLine then .ok .nx (ρ.set i (some (.od (dPut kvs k d)))) else .bad
  | _, _ => .bad)
theorem s_put {i : Nat} {value : Expr} {mv mk : M PyData} (hu : X.A.units + 1 < cLine) (ho : PE X o (tVar i)) (hi : PE X e (tD C mk)) (hv : PE X value (tD C mv)) (hs : swapsWith value (some (.Subscript o e pos')) pos.line X.env = pure false := by rfl) :
    PS X (.Assign [.Subscript o e pos'] value pos) (tS C P (sPut i mv mk)) :=
  (ps_dput hu ho hi hv hs).imp fun D σ H ⟨F, ρ, sr, p⟩ => by
    refine ⟨F, ρ, sr, PostS.part (P := P) p fun d ρ1 F1 H1 v q1 g1 s1 r1 => ?_⟩
    unfold mHas at q1
    split at q1
    · rename_i oo eo
      obtain ⟨x, hx, _⟩ := s1.sl i _ eo
      refine ⟨x, hx, F1, ρ1, s1, PostS.part (P := P) q1 fun kd ρ2 F2 H2 y q2 g2 s2 r2 => ?_⟩
      split at q2
      · rename_i k kvs ek eo2
        split at q2
        · rename_i hz
          obtain ⟨x', hx', a, es, rfl, k1, k2, k3⟩ := s2.sl i _ eo2
          rw [hx] at hx'; cases hx'
          have ey := keyD_at r2 ek
          subst ey
          have st := SR.write (i := i) (o' := .od (dPut kvs k d)) (u := .dK (putK es k v)) s2 eo2 rfl hx rfl ⟨a, putK es k v, rfl, k1, upd_same, k3.put (DV.mono g2.ext r1)⟩
          exact ⟨a, _, rfl, DPut.k k2 (by rw [k3.len]; exact hz), q2 F2 _ σ st.2 st.1 Pres.refl⟩
        · exact q2.elim
      · exact q2.elim
    · exact q1.elim
/-! ## a, b = x, y -/
def sPar (i j : Nat) (ma mb : M OD) : M Out := ma.bind fun u => mb.bind fun w => fun ρ => .ok .nx ((ρ.set i (some u)).set j (some w))
theorem s_par {i j : Nat} {x y : Str} {ma mb : M OD} {px py pt : Pos} {kt k2 pt2} (hc : X.calm = true) (hN : X.N.Nodup) (hi : X.N[i]? = some x) (hj : X.N[j]? = some y)
    (hx : X.env.scope.names.lookup x = some .local) (hy : X.env.scope.names.lookup y = some .local) (ha : PE X a (tO C ma)) (hb : PE X b (tO C mb)) 
    (hw : swappedStores [.Tuple [.Name x px, .Name y py] kt pt] (.Tuple [a, b] k2 pt2) X.env = pure (some [x, y]) := by rfl) (hij : i ≠ j := by decide) (hPi : i ∉ P := by decide) (hPj : j ∉ P := by decide)
    (hs : swapsWithSole [.Tuple [.Name x px, .Name y py] kt pt] (.Tuple [a, b] k2 pt2) pos.line X.env = pure false := by rfl)
    (hsa : starEach [a, b] X.env = (false, eval a X.env) :: starEach [b] X.env := by rfl) (hsb : starEach [b] X.env = (false, eval b X.env) :: starEach [] X.env := by rfl) :
    PS X (.Assign [.Tuple [.Name x px, .Name y py] kt pt] (.Tuple [a, b] k2 pt2) pos) (tS C P (sPar i j ma mb)) := by
  refine ⟨fun pins s σ H D I ⟨F, ρ, sr, p⟩ => (ps_par hc hN hi hj hij hx hy (pa_cons ha (pa_cons hb pa_nil hsb) hsa) hw hs).run pins s σ H D I ?_⟩
  have li : i < σ.length := by rw [I.len]; exact (List.getElem?_eq_some_iff.mp hi).1
  have lj : j < σ.length := by rw [I.len]; exact (List.getElem?_eq_some_iff.mp hj).1
  unfold sPar M.bind at p
  refine ⟨F, ρ, sr, ?_⟩
  cases e1 : ma ρ with
  | bad => rw [e1] at p; exact p
  | ex x ρ' => rw [e1] at p; exact fun F' H' cls d g s r => p F' H' σ cls d g s Pres.refl r
  | ok u ρ1 =>
  simp only [e1] at p
  intro F1 H1 v g1 s1 r1
  refine ⟨F1, ρ1, s1, ?_⟩
  cases e2 : mb ρ1 with
  | bad => simp only [e2] at p; exact p.elim
  | ex x ρ' => simp only [e2] at p; exact fun F' H' cls d g s r => p F' H' σ cls d (g1.trans g) s Pres.refl r
  | ok w ρ2 =>
  simp only [e2] at p
  intro F2 H2 z g2 s2 r2
  refine ⟨v, z, rfl, ?_⟩
  -- the first thing is as it was
  have keep1 : ∀ a, v = .ref a → u.isO = true → ¬ own σ ρ1 a ∧ (∃ o, H1 a = some o) ∧ F1 a = none := fun a ea io => by
    obtain ⟨b, o, eb, fb, hb⟩ := r1.1.refs io
    rw [eb] at ea; cases ea
    exact ⟨(r1.2 io a eb).1, ⟨o, hb⟩, fb⟩
  have or1 : OR C.K F2 H2 v u := r1.1.keep g2.ext fun a ea io => by
    obtain ⟨n1, ⟨o, ho⟩, fa⟩ := keep1 a ea io
    refine ⟨?_, fun o' h => g2.keep a o' h n1⟩
    cases q : F2 a with
    | none => rfl
    | some z =>
      rcases g2.new a (by rw [q]; simp) with y | y | y
      · exact absurd fa y
      · rw [ho] at y; cases y
      · exact absurd y n1
  have no2 : ∀ a, v = .ref a → u.isO = true → ¬ own σ ρ2 a := fun a ea io y => by
    obtain ⟨n1, ⟨o, ho⟩, _⟩ := keep1 a ea io
    rcases g2.ows a y with k | k
    · exact n1 k
    · rw [ho] at k; cases k
  have sA : SR C.K F2 H2 (σ.set i (some v)) (ρ2.set i (some u)) := s2.store li or1 fun io a ea => no2 a ea io
  have sB : SR C.K F2 H2 ((σ.set i (some v)).set j (some z)) ((ρ2.set i (some u)).set j (some w)) := by
    refine sA.store (by rw [List.length_set]; exact lj) r2.1 fun io a ea y => ?_
    rcases own.store li y with k | ⟨k1, k2⟩
    · exact (r2.2 io a ea).1 k
    · obtain ⟨n1, ⟨o, ho⟩, _⟩ := keep1 a k2 k1
      rcases (r2.2 io a ea).2 with m | m
      · rw [ho] at m; cases m
      · exact n1 m
  have g := g1.trans g2
  refine p F2 H2 _ ⟨g.ext, g.keep, g.new, fun b y => ?_⟩ sB ⟨by rw [List.length_set, List.length_set], fun p hp => ?_⟩
  · rcases own.store (by rw [List.length_set]; exact lj) y with y | ⟨k1, k2⟩
    · rcases own.store li y with k | ⟨k1, k2⟩
      · exact g.ows b k
      · exact ((r1.2 k1 b k2).2).symm
    · rcases (r2.2 k1 b k2).2 with m | m
      · exact (g1.back m).symm
      · exact g1.ows b m
  · rw [List.getElem?_set_ne (fun z => hPj (by rw [z]; exact hp)), List.getElem?_set_ne (fun z => hPi (by rw [z]; exact hp))]
end
end Eg
namespace Eg
open PySem L2 PySem.W PySem.SeqAt
section
variable {X : Cx} {C : Ct} {e a b c o : Expr} {es : List Expr} {pos apos cpos pos' : Pos} {P : List Nat}
/-- name = [..] -/
theorem s_setC {i : Nat} {y : Str} {py : Pos} {elt tg iter : Expr} {ifs : List Expr} {scope : Scope} {own : List (Str × Nat)} {pos spos : Pos} {g : TG} {t : Tgt} {src : M (List PyData)} {mt : M Bool} {me : M PyData} {n : Nat} (hc : X.calm = true) (hN : X.N.Nodup) (hy : X.N[i]? = some y) (hyl : X.env.scope.names.lookup y = some .local)
    (hsw : swapsWith (.ListComp elt [⟨tg, iter, ifs, 0⟩] scope pos) (some (.Name y py)) spos.line X.env = pure true) (hi : PI X tg iter (tI C src)) (ok : BlkOk X.N X.env.scope scope own)
    (hg : ∀ (s : Shared) (H : Hp) (D : Addr) (cl : List (Str × Addr)) (fp : List Addr), PG (X.blk s H scope (compEnvC scope cl D X.env) fp) tg g) (htg : TgOk C.quiet (outs n (own.map (·.2))) n g t)
    (ht : ∀ (s : Shared) (H : Hp) (D : Addr) (cl : List (Str × Addr)) (fp : List Addr), PTs (X.blk s H scope (compEnvC scope cl D X.env) fp) ifs (tT C.quiet mt))
    (he : ∀ (s : Shared) (H : Hp) (D : Addr) (cl : List (Str × Addr)) (fp : List Addr), PE (X.blk s H scope (compEnvC scope cl D X.env) fp) elt (tD C.quiet me)) (hP : i ∉ P := by decide) (hL : X.N.length = n := by rfl) (hs : ∀ x, foldedSetIterable iter X.env x = pure x := by intro _; rfl) :
    PS X (.Assign [.Name y py] (.ListComp elt [⟨tg, iter, ifs, 0⟩] scope pos) spos) (tS C P (sSet i (mComp src t mt me (own.map (·.2))))) := by
  refine ⟨fun pins s σ H D I ⟨F, ρ, sr, p⟩ => (ps_setLc hc hN hy hyl hsw hi ok hg ht he hs).run pins s σ H D I ?_⟩
  have q := PostS.set p (by rw [I.len]; exact (List.getElem?_eq_some_iff.mp hy).1) hP
  exact lc_read (by rw [I.len, hL]) htg ⟨F, ρ, sr, q⟩
/-! ## two clauses -/
theorem lc_in {g : TG} {t : Tgt} {mt : M Bool} {me : M PyData} {vs : List Nat} {n : Nat} {σ : St} {ow0 : Addr → Prop} {F1 H1 F H : Hp} {D : Addr} {J : It} {xs acc accI : List PyData} {accV : List V} {ρ ρI : Rho} {Z : Hp → Prop} (hn : σ.length = n) (ht : TgOk C.quiet (outs n vs) n g t) (hD : H1 D = none)
    (sr : SR C.K F H (wipe σ vs) (wipeR ρ vs)) (gw : Grow ow0 (own (wipe σ vs) (wipeR ρ vs)) F1 H1 F H) (nD : ¬ own (wipe σ vs) (wipeR ρ vs) D) (fD : F D = none) (eD : H D = some (.lst accV)) (dv : DVs C.K F accV acc) (wk : WalkD C.K F J xs) (er : lcGo t mt me vs xs acc ρ = .ok accI ρI)
    (hZ : ∀ F' H' accV', SR C.K F' H' (wipe σ vs) (wipeR ρI vs) → Grow ow0 (own (wipe σ vs) (wipeR ρI vs)) F1 H1 F' H' → ¬ own (wipe σ vs) (wipeR ρI vs) D → F' D = none → H' D = some (.lst accV') → DVs C.K F' accV' accI → Z H') :
    ∃ W : Nat → Nat → Hp → Prop, (∃ m, W 0 m H) ∧ ∀ i m H, W i m H → (J.stop i H ∧ Z H) ∨ (J.go i H ∧ ∃ Nx : Hp → Prop, (∀ H', Nx H' → ∃ m', m' < m ∧ W (i + 1) m' H') ∧ ∀ x H', J.yld i H x H' →
      g x (wipe σ vs) H' fun σ2 H2 => wipe σ2 vs = wipe σ vs ∧ tT C.quiet mt σ2 H2 fun b H3 => if b = true then tD C.quiet me σ2 H3 fun y H4 => ∃ acc, H4 D = some (.lst acc) ∧ acc.length < sizeLine ∧ Nx (upd H4 D (.lst (acc ++ [y]))) else Nx H3) := by
  refine ⟨fun i m H' => m = xs.length - i ∧ i ≤ xs.length ∧ ∃ F' ρ' acc accV, SR C.K F' H' (wipe σ vs) (wipeR ρ' vs) ∧ Grow ow0 (own (wipe σ vs) (wipeR ρ' vs)) F1 H1 F' H' ∧ Same F F' ∧
    ¬ own (wipe σ vs) (wipeR ρ' vs) D ∧ F' D = none ∧ H' D = some (.lst accV) ∧ DVs C.K F' accV acc ∧ lcGo t mt me vs (xs.drop i) acc ρ' = .ok accI ρI,
    ⟨xs.length, by simp, Nat.zero_le _, F, ρ, acc, accV, sr, gw, Same.refl _, nD, fD, eD, dv, by rw [List.drop_zero]; exact er⟩, ?_⟩
  rintro i m H' ⟨rfl, hil, F', ρ', acc, accV, s', gw, sF, nD, fD, eD, dv, er⟩
  obtain ⟨w1, w2⟩ := wk F' H' i sF s'.sub
  by_cases hlt : i < xs.length
  · obtain ⟨x, ex⟩ : ∃ x, xs[i] = x := ⟨_, rfl⟩
    obtain ⟨go, yl⟩ := w2 x (by rw [← ex]; simp [hlt])
    rw [List.drop_eq_getElem_cons hlt, ex] at er
    simp only [lcGo] at er
    refine .inr ⟨go, fun H2 => ∃ F' ρ' acc accV, SR C.K F' H2 (wipe σ vs) (wipeR ρ' vs) ∧ Grow ow0 (own (wipe σ vs) (wipeR ρ' vs)) F1 H1 F' H2 ∧ Same F F' ∧
      ¬ own (wipe σ vs) (wipeR ρ' vs) D ∧ F' D = none ∧ H2 D = some (.lst accV) ∧ DVs C.K F' accV acc ∧ lcGo t mt me vs (xs.drop (i + 1)) acc ρ' = .ok accI ρI, fun H2 h2 => ⟨xs.length - (i + 1), by omega, rfl, by omega, h2⟩, fun v H2 y => ?_⟩
    obtain ⟨F2, al⟩ := yl v H2 y
    cases et : t x (wipeR ρ' vs) with
    | none => simp only [et] at er; cases er
    | some ρ2 =>
      simp only [et] at er
      have st : SR C.K F2 H2 (wipe σ vs) (wipeR ρ' vs) ∧ Grow (own (wipe σ vs) (wipeR ρ' vs)) (own (wipe σ vs) (wipeR ρ' vs)) F' H' F2 H2 ∧ DV C.K F2 v x ∧ F2 D = none ∧ H2 D = some (.lst accV) := by
        cases al with
        | asis h => exact ⟨s', Grow.refl, h, fD, eD⟩
        | tup hp h =>
          have fp := s'.sub.free hp
          have ne := ne_of_none eD hp
          exact ⟨s'.laid hp, Grow.laid hp fp, .tup (.inl (.inl upd_same)) (h.upd fp), by rw [upd_ne ne]; exact fD, by rw [upd_ne ne]; exact eD⟩
      obtain ⟨s2, g2, dx, fD2, eD2⟩ := st
      refine ht v x (wipe σ vs) (wipeR ρ' vs) ρ2 F2 H2 _ (by rw [wipe_length]; exact hn) s2 dx et fun σ3 s3 o3 p3 => ?_
      have ew : wipe σ3 vs = wipe σ vs := by
        rw [← wipe_wipe σ vs]
        exact wipe_ext p3.1 fun j hj q => p3.2 j (mem_outs (by rw [wipe_length, hn] at hj; exact hj) q)
      have g3 : Grow (own (wipe σ vs) (wipeR ρ' vs)) (own σ3 ρ2) F' H' F2 H2 := g2.less o3
      have nD3 : ¬ own σ3 ρ2 D := fun z => nD (o3 D z)
      refine ⟨ew, F2, ρ2, s3, ?_⟩
      cases emt : mt ρ2 with
      | bad => simp only [emt] at er; cases er
      | ex x r => simp only [emt] at er; cases er
      | ok k ρ3 =>
        simp only [emt] at er
        intro F3 H3 k' g4 s4 ek
        subst ek
        have nD4 : ¬ own σ3 ρ3 D := fun z => (g4.ows D z).elim nD3 fun y => by rw [eD2] at y; cases y
        have stay : ∀ {Fa Ha Fb Hb : Hp} {o1 o2 : Addr → Prop}, Grow o1 o2 Fa Ha Fb Hb → ¬ o1 D → Fa D = none → Ha D = some (.lst accV) → Fb D = none ∧ Hb D = some (.lst accV) := fun {Fa Ha Fb Hb o1 o2} g n f h => by
          refine ⟨?_, g.keep D _ h n⟩
          cases q : Fb D with
          | none => rfl
          | some u =>
            rcases g.new D (by rw [q]; simp) with z | z | z
            · exact absurd f z
            · rw [h] at z; cases z
            · exact absurd z n
        obtain ⟨fD4, eD4⟩ := stay g4 nD3 fD2 eD2
        have back : ∀ {F5 H5 : Hp} {ρ5 : Rho}, SR C.K F5 H5 σ3 ρ5 → SR C.K F5 H5 (wipe σ vs) (wipeR ρ5 vs) := fun {F5 H5 ρ5} s => by
          have := s.wipes vs
          rw [ew] at this
          exact this
        have lessW : ∀ {ρ5 : Rho} {b : Addr}, own (wipe σ vs) (wipeR ρ5 vs) b → own σ3 ρ5 b := fun {ρ5 b} z => by
          rw [← ew] at z
          exact (own.wipes z).1
        cases k' with
        | false =>
          simp only at er
          rw [if_neg Bool.false_ne_true]
          exact ⟨F3, ρ3, acc, accV, back s4, (gw.trans (g3.trans g4)).less fun b z => lessW z, sF.trans (g3.trans g4).ext, fun z => nD4 (lessW z), fD4, eD4, DVs.mono (g3.trans g4).ext dv, er⟩
        | true =>
          simp only at er
          rw [if_pos rfl]
          refine ⟨F3, ρ3, s4, ?_⟩
          cases eme : me ρ3 with
          | bad => simp only [eme] at er; cases er
          | ex x r => simp only [eme] at er; cases er
          | ok d ρ5 =>
            simp only [eme] at er
            split at er
            · rename_i hz
              intro F5 H5 y5 g5 s5 r5
              have nD5 : ¬ own σ3 ρ5 D := fun z => (g5.ows D z).elim nD4 fun y => by rw [eD4] at y; cases y
              obtain ⟨fD5, eD5⟩ := stay g5 nD4 fD4 eD4
              have gl := g3.trans (g4.trans g5)
              have s6 : SR C.K F5 (upd H5 D (.lst (accV ++ [y5]))) σ3 ρ5 := s5.on (Same.refl _) (fun b u q => by rw [upd_ne (ne_of_none q fD5)]; exact s5.sub b u q) fun a ha => by
                obtain ⟨fa, u, hu⟩ := own.at s5 ha
                exact ⟨fa, fun u' q => by rw [upd_ne (fun z => nD5 (by rw [← z]; exact ha))]; exact q⟩
              refine ⟨accV, eD5, by rw [dv.len]; exact hz, F5, ρ5, acc ++ [d], accV ++ [y5], back s6, ?_, sF.trans gl.ext, fun z => nD5 (lessW z), fD5, upd_same, (DVs.mono gl.ext dv).append (.cons r5 .nil), er⟩
              have gall := gw.trans gl
              refine ⟨gall.ext, fun b o q n => ?_, gall.new, fun b z => gall.ows b (lessW z)⟩
              rw [upd_ne (ne_of_none q hD)]
              exact gall.keep b o q n
            · cases er
  · have ei : i = xs.length := by omega
    subst ei
    rw [List.drop_length] at er
    simp only [lcGo, M.ret] at er
    cases er
    exact .inl ⟨w1 (Nat.le_refl _), hZ F' H' accV s' gw nD fD eD dv⟩
def lc2Go (t : Tgt) (mt : M Bool) (src1 : M (List PyData)) (t1 : Tgt) (mt1 : M Bool) (me : M PyData) (vs vs1 : List Nat) : List PyData → List PyData → M (List PyData)
  | [], acc => M.ret acc
  | x :: xs, acc => fun ρ => match t x (wipeR ρ vs) with
    | none => .bad
    | some ρ1 => match mt ρ1 with
      | .ok false ρ2 => lc2Go t mt src1 t1 mt1 me vs vs1 xs acc ρ2
      | .ok true ρ2 => (match src1 ρ2 with
        | .ok ys ρ3 => (match lcGo t1 mt1 me vs1 ys acc ρ3 with
          | .ok acc' ρ4 => lc2Go t mt src1 t1 mt1 me vs vs1 xs acc' ρ4
          | _ => .bad)
        | _ => .bad)
      | _ => .bad
def mComp2 (src : M (List PyData)) (t : Tgt) (mt : M Bool) (src1 : M (List PyData)) (t1 : Tgt) (mt1 : M Bool) (me : M PyData) (vs vs1 : List Nat) : M OD := src.bind fun xs => fun ρ => match lc2Go t mt src1 t1 mt1 me vs vs1 xs [] ρ with
  | .ok acc ρ' => if ρ'.length = ρ.length then .ok (.ol acc) (restR ρ ρ' vs) else .bad
  | _ => .bad
theorem wipe_sub {σ : St} {vs vs1 : List Nat} (h : ∀ i ∈ vs1, i ∈ vs) : wipe (wipe σ vs1) vs = wipe σ vs := wipe_ext (wipe_length σ vs1) fun j _ q => wipe_out fun z => q (h j z)
theorem wipeR_ext {ρ ρ' : Rho} {vs : List Nat} (hl : ρ.length = ρ'.length) (h : ∀ j, j ∉ vs → ρ[j]? = ρ'[j]?) : wipeR ρ vs = wipeR ρ' vs := by
  refine List.ext_getElem? fun j => ?_
  by_cases q : j ∈ vs
  · have hin : ∀ r : Rho, (wipeR r vs)[j]? = if j < r.length then some none else none := fun r => by
      by_cases z : j < r.length
      · rw [if_pos z]
        have e : (wipeR r vs)[j]? = some ((wipeR r vs)[j]'(by rw [wipeR_len]; exact z)) := List.getElem?_eq_getElem _
        cases w : (wipeR r vs)[j]'(by rw [wipeR_len]; exact z) with
        | none => rw [e, w]
        | some o => rw [w] at e; exact absurd e (wipeR_in q)
      · rw [if_neg z, List.getElem?_eq_none (by rw [wipeR_len]; omega)]
    rw [hin, hin, hl]
  · rw [wipeR_out q, wipeR_out q]; exact h j q
theorem wipeR_sub {ρ : Rho} {vs vs1 : List Nat} (h : ∀ i ∈ vs1, i ∈ vs) : wipeR (wipeR ρ vs1) vs = wipeR ρ vs := wipeR_ext (wipeR_len ρ vs1) fun j q => wipeR_out fun z => q (h j z)
theorem lc2_read {g g1 : TG} {t t1 : Tgt} {src src1 : M (List PyData)} {mt mt1 : M Bool} {me : M PyData} {vs vs1 : List Nat} {n : Nat} {σ : St} {H : Hp} {Q : VK} (hn : σ.length = n) (ht : TgOk C.quiet (outs n vs) n g t) (ht1 : TgOk C.quiet (outs n vs1) n g1 t1) (hv : ∀ i ∈ vs1, i ∈ vs)
    (h : tO C (mComp2 src t mt src1 t1 mt1 me vs vs1) σ H Q) : tLc2 (tI C src) g (tT C.quiet mt) (tI C.quiet src1) g1 (tT C.quiet mt1) (tD C.quiet me) vs vs1 σ H Q := by
  obtain ⟨F, ρ, sr, p⟩ := h
  refine ⟨F, ρ, sr, p.part fun xs ρ1 F1 H1 J e1 q1 g1' s1 wk => fun D hD => ?_⟩
  have q1 := q1.on stb_O g1'
  obtain ⟨accF, ρF, eF, hlF⟩ : ∃ accF ρF, lc2Go t mt src1 t1 mt1 me vs vs1 xs [] ρ1 = .ok accF ρF ∧ ρF.length = ρ1.length := by
    cases e : lc2Go t mt src1 t1 mt1 me vs vs1 xs [] ρ1 with
    | ok a r =>
      simp only [e] at q1
      split at q1
      · rename_i hz; exact ⟨a, r, rfl, hz⟩
      · exact q1.elim
    | _ => simp only [e] at q1; exact q1.elim
  simp only [eF, hlF, if_true] at q1
  have f1D : F1 D = none := s1.sub.free hD
  have nD1 : ¬ own (wipe σ vs) (wipeR ρ1 vs) D := fun z => by
    obtain ⟨_, u, hu⟩ := own.at (s1.wipes vs) z
    rw [hD] at hu; cases hu
  have sD : SR C.K F1 (upd H1 D (.lst [])) (wipe σ vs) (wipeR ρ1 vs) := (s1.fresh hD).wipes vs
  refine ⟨fun i m H' => m = xs.length - i ∧ i ≤ xs.length ∧ ∃ F' ρ' acc accV, SR C.K F' H' (wipe σ vs) (wipeR ρ' vs) ∧ Grow (own (wipe σ vs) (wipeR ρ1 vs)) (own (wipe σ vs) (wipeR ρ' vs)) F1 H1 F' H' ∧
    ¬ own (wipe σ vs) (wipeR ρ' vs) D ∧ F' D = none ∧ H' D = some (.lst accV) ∧ DVs C.K F' accV acc ∧ lc2Go t mt src1 t1 mt1 me vs vs1 (xs.drop i) acc ρ' = .ok accF ρF,
    ⟨xs.length, by simp, Nat.zero_le _, F1, ρ1, [], [], sD, Grow.fresh hD, nD1, f1D, upd_same, .nil, by rw [List.drop_zero]; exact eF⟩, ?_⟩
  rintro i m H' ⟨rfl, hil, F', ρ', acc, accV, s', gw, nD, fD, eD, dv, er⟩
  obtain ⟨w1, w2⟩ := wk F' H' i gw.ext s'.sub
  by_cases hlt : i < xs.length
  · obtain ⟨x, ex⟩ : ∃ x, xs[i] = x := ⟨_, rfl⟩
    obtain ⟨go, yl⟩ := w2 x (by rw [← ex]; simp [hlt])
    rw [List.drop_eq_getElem_cons hlt, ex] at er
    simp only [lc2Go] at er
    refine .inr ⟨go, fun H2 => ∃ F' ρ' acc accV, SR C.K F' H2 (wipe σ vs) (wipeR ρ' vs) ∧ Grow (own (wipe σ vs) (wipeR ρ1 vs)) (own (wipe σ vs) (wipeR ρ' vs)) F1 H1 F' H2 ∧
      ¬ own (wipe σ vs) (wipeR ρ' vs) D ∧ F' D = none ∧ H2 D = some (.lst accV) ∧ DVs C.K F' accV acc ∧ lc2Go t mt src1 t1 mt1 me vs vs1 (xs.drop (i + 1)) acc ρ' = .ok accF ρF, fun H2 h2 => ⟨xs.length - (i + 1), by omega, rfl, by omega, h2⟩, fun v H2 y => ?_⟩
    obtain ⟨F2, al⟩ := yl v H2 y
    cases et : t x (wipeR ρ' vs) with
    | none => simp only [et] at er; cases er
    | some ρ2 =>
      simp only [et] at er
      have st : SR C.K F2 H2 (wipe σ vs) (wipeR ρ' vs) ∧ Grow (own (wipe σ vs) (wipeR ρ' vs)) (own (wipe σ vs) (wipeR ρ' vs)) F' H' F2 H2 ∧ DV C.K F2 v x ∧ F2 D = none ∧ H2 D = some (.lst accV) := by
        cases al with
        | asis h => exact ⟨s', Grow.refl, h, fD, eD⟩
        | tup hp h =>
          have fp := s'.sub.free hp
          have ne := ne_of_none eD hp
          exact ⟨s'.laid hp, Grow.laid hp fp, .tup (.inl (.inl upd_same)) (h.upd fp), by rw [upd_ne ne]; exact fD, by rw [upd_ne ne]; exact eD⟩
      obtain ⟨s2, g2, dx, fD2, eD2⟩ := st
      refine ht v x (wipe σ vs) (wipeR ρ' vs) ρ2 F2 H2 _ (by rw [wipe_length]; exact hn) s2 dx et fun σ3 s3 o3 p3 => ?_
      have ew : wipe σ3 vs = wipe σ vs := by
        rw [← wipe_wipe σ vs]
        exact wipe_ext p3.1 fun j hj q => p3.2 j (mem_outs (by rw [wipe_length, hn] at hj; exact hj) q)
      have hn3 : σ3.length = n := by rw [p3.1, wipe_length]; exact hn
      have g3 : Grow (own (wipe σ vs) (wipeR ρ' vs)) (own σ3 ρ2) F' H' F2 H2 := g2.less o3
      have nD3 : ¬ own σ3 ρ2 D := fun z => nD (o3 D z)
      refine ⟨ew, F2, ρ2, s3, ?_⟩
      have stay : ∀ {Fa Ha Fb Hb : Hp} {o1 o2 : Addr → Prop} {l : List V}, Grow o1 o2 Fa Ha Fb Hb → ¬ o1 D → Fa D = none → Ha D = some (.lst l) → Fb D = none ∧ Hb D = some (.lst l) ∧ ¬ o2 D := fun {Fa Ha Fb Hb o1 o2 l} g n f h => by
        refine ⟨?_, g.keep D _ h n, fun z => ?_⟩
        · cases q : Fb D with
          | none => rfl
          | some u =>
            rcases g.new D (by rw [q]; simp) with z | z | z
            · exact absurd f z
            · rw [h] at z; cases z
            · exact absurd z n
        · rcases g.ows D z with y | y
          · exact n y
          · rw [h] at y; cases y
      have back : ∀ {F5 H5 : Hp} {ρ5 : Rho}, SR C.K F5 H5 σ3 ρ5 → SR C.K F5 H5 (wipe σ vs) (wipeR ρ5 vs) := fun {F5 H5 ρ5} s => by
        have := s.wipes vs
        rw [ew] at this
        exact this
      have lessW : ∀ {ρ5 : Rho} {b : Addr}, own (wipe σ vs) (wipeR ρ5 vs) b → own σ3 ρ5 b := fun {ρ5 b} z => by
        rw [← ew] at z
        exact (own.wipes z).1
      cases emt : mt ρ2 with
      | bad => simp only [emt] at er; cases er
      | ex x r => simp only [emt] at er; cases er
      | ok k ρ3 =>
        simp only [emt] at er
        intro F3 H3 k' g4 s4 ek
        subst ek
        obtain ⟨fD4, eD4, nD4⟩ := stay g4 nD3 fD2 eD2
        cases k' with
        | false =>
          simp only at er
          rw [if_neg Bool.false_ne_true]
          exact ⟨F3, ρ3, acc, accV, back s4, (gw.trans (g3.trans g4)).less fun b z => lessW z, fun z => nD4 (lessW z), fD4, eD4, DVs.mono (g3.trans g4).ext dv, er⟩
        | true =>
          simp only at er
          rw [if_pos rfl]
          refine ⟨F3, ρ3, s4, ?_⟩
          cases es1 : src1 ρ3 with
          | bad => simp only [es1] at er; cases er
          | ex x r => simp only [es1] at er; cases er
          | ok ys ρ4 =>
            simp only [es1] at er
            intro F4 H4 J1 g5 s5 wk1
            obtain ⟨fD5, eD5, nD5⟩ := stay g5 nD4 fD4 eD4
            cases ei : lcGo t1 mt1 me vs1 ys acc ρ4 with
            | bad => simp only [ei] at er; cases er
            | ex x r => simp only [ei] at er; cases er
            | ok accI ρI =>
              simp only [ei] at er
              have gl := g3.trans (g4.trans g5)
              have l1 : ∀ b, own (wipe σ3 vs1) (wipeR ρ4 vs1) b → own σ3 ρ4 b := fun b z => (own.wipes z).1
              refine lc_in (ow0 := own (wipe σ vs) (wipeR ρ1 vs)) (F1 := F1) (H1 := H1) (acc := acc) (accI := accI) (ρ := ρ4) (ρI := ρI) (xs := ys) (F := F4) (accV := accV) hn3 ht1 hD (s5.wipes vs1) ((gw.trans gl).less l1) (fun z => nD5 (l1 D z)) fD5 eD5 (DVs.mono gl.ext dv) wk1 ei fun F6 H6 accV' s6 g6 nD6 fD6 eD6 dv6 => ?_
              have s7 := s6.wipes vs
              rw [wipe_sub hv, wipeR_sub hv, ew] at s7
              have l2 : ∀ b, own (wipe σ vs) (wipeR ρI vs) b → own (wipe σ3 vs1) (wipeR ρI vs1) b := fun b z => by
                rw [← ew, ← wipe_sub hv, ← wipeR_sub hv] at z
                exact (own.wipes z).1
              exact ⟨F6, ρI, accI, accV', s7, g6.less l2, fun z => nD6 (l2 D z), fD6, eD6, dv6, er⟩
  · have ei : i = xs.length := by omega
    subst ei
    rw [List.drop_length] at er
    simp only [lc2Go, M.ret] at er
    cases er
    obtain ⟨sf, gf⟩ := s1.rest s' hlF gw
    refine .inl ⟨w1 (Nat.le_refl _), q1 F' H' (.ref D) gf sf ⟨⟨D, accV, rfl, fD, eD, dv⟩, fun _ a ea => ?_⟩⟩
    cases ea
    refine ⟨fun z => ?_, .inl hD⟩
    rcases gf.ows D z with y | y
    · obtain ⟨_, u, hu⟩ := own.at s1 y
      rw [hD] at hu; cases hu
    · obtain ⟨j, o, e1, e2, e3⟩ := z
      by_cases q : j ∈ vs
      · obtain ⟨_, u, hu⟩ := own.at s1 ⟨j, o, restR_in q e1, e2, e3⟩
        rw [hD] at hu; cases hu
      · rw [restR_out q] at e1
        exact nD ⟨j, o, by rw [wipeR_out q]; exact e1, e2, by rw [wipe_out q]; exact e3⟩
theorem o_comp2 {elt tg iter tg1 iter1 : Expr} {ifs ifs1 : List Expr} {g g1 : TG} {t t1 : Tgt} {src src1 : M (List PyData)} {mt mt1 : M Bool} {me : M PyData} {n : Nat} {scope : Scope} {own : List (Str × Nat)} {vs1 : List Nat} (hc : X.calm = true) (hN : X.N.Nodup) (hi : PI X tg iter (tI C src)) (ok : BlkOk X.N X.env.scope scope own)
    (hg : ∀ (s : Shared) (H : Hp) (D : Addr) (cl : List (Str × Addr)) (fp : List Addr), PG (X.blk s H scope (compEnvC scope cl D X.env) fp) tg g) (htg : TgOk C.quiet (outs n (own.map (·.2))) n g t)
    (ht : ∀ (s : Shared) (H : Hp) (D : Addr) (cl : List (Str × Addr)) (fp : List Addr), PTs (X.blk s H scope (compEnvC scope cl D X.env) fp) ifs (tT C.quiet mt))
    (hi1 : ∀ (s : Shared) (H : Hp) (D : Addr) (cl : List (Str × Addr)) (fp : List Addr), PI (X.blk s H scope (compEnvC scope cl D X.env) fp) tg1 iter1 (tI C.quiet src1))
    (hg1 : ∀ (s : Shared) (H : Hp) (D : Addr) (cl : List (Str × Addr)) (fp : List Addr), PG (X.blk s H scope (compEnvC scope cl D X.env) fp) tg1 g1) (htg1 : TgOk C.quiet (outs n vs1) n g1 t1)
    (ht1 : ∀ (s : Shared) (H : Hp) (D : Addr) (cl : List (Str × Addr)) (fp : List Addr), PTs (X.blk s H scope (compEnvC scope cl D X.env) fp) ifs1 (tT C.quiet mt1))
    (he : ∀ (s : Shared) (H : Hp) (D : Addr) (cl : List (Str × Addr)) (fp : List Addr), PE (X.blk s H scope (compEnvC scope cl D X.env) fp) elt (tD C.quiet me)) (hv : ∀ i ∈ vs1, i ∈ own.map (·.2) := by decide) (hL : X.N.length = n := by rfl) (hs : ∀ x, foldedSetIterable iter X.env x = pure x := by intro _; rfl) (hs1 : ∀ env x, foldedSetIterable iter1 env x = pure x := by intro _ _; rfl) :
    PE X (.ListComp elt [⟨tg, iter, ifs, 0⟩, ⟨tg1, iter1, ifs1, 0⟩] scope pos) (tO C (mComp2 src t mt src1 t1 mt1 me (own.map (·.2)) vs1)) :=
  ⟨fun pins s σ H Q I q => (pe_lc2 hc hN hi ok hv hg ht hi1 hg1 ht1 he hs hs1).run pins s σ H Q I (lc2_read (by rw [I.len, hL]) htg htg1 hv q)⟩
end
end Eg
namespace Eg
open PySem L2 PySem.W PySem.SeqAt
theorem _root_.L2.Room.units1 {k : Nat} {A : Around} (r : Room k A) : A.units + 1 < cLine := by have := r.un; omega
def LenOk (ms : M (List Arg)) (n : Nat) : Prop := ∀ ρ as ρ', ms ρ = .ok as ρ' → as.length = n
theorem ll_nil : LenOk mNil 0 := fun _ _ _ e => by cases e; rfl
theorem ll_cons {ma : M Arg} {ms : M (List Arg)} {n : Nat} (h : LenOk ms n) : LenOk (mCons ma ms) (n + 1) := fun ρ as ρ' e => by
  simp only [mCons, M.bind] at e
  cases e1 : ma ρ with
  | bad => rw [e1] at e; cases e
  | ex _ _ => rw [e1] at e; cases e
  | ok a ρ1 =>
    rw [e1] at e
    simp only at e
    cases e2 : ms ρ1 with
    | bad => rw [e2] at e; cases e
    | ex _ _ => rw [e2] at e; cases e
    | ok as' ρ2 =>
      rw [e2] at e
      cases e
      rw [List.length_cons, h _ _ _ e2]
theorem b_len : bootBuiltins "len" = some (.builtin "len") := by decide +kernel
theorem b_repr : bootBuiltins "repr" = some (.builtin "repr") := by decide +kernel
theorem b_sorted : bootBuiltins "sorted" = some (.builtin "sorted") := by decide +kernel
theorem b_min : bootBuiltins "min" = some (.builtin "min") := by decide +kernel
theorem b_max : bootBuiltins "max" = some (.builtin "max") := by decide +kernel
theorem b_list : bootBuiltins "list" = some (.type "list") := by decide +kernel
theorem b_tuple : bootBuiltins "tuple" = some (.type "tuple") := by decide +kernel
theorem b_int : bootBuiltins "int" = some (.type "int") := by decide +kernel
theorem blk_look {scope : Scope} {env : Env} {sc : Scope} {x : Str} {k : NameKind} (hs : env.scope = sc) (h : (scope.names.map fun (n, k) => if (k == .free && sc.kind == .function && sc.names.lookup n == some .cell) then (n, .cell) else (n, k)).lookup x = some k) :
    (relabel scope env).names.lookup x = some k := by subst hs; exact h
theorem blk_gl {X : Cx} {scope : Scope} {env : Env} {sc : Scope} {x : Str} (hX : X.env.scope = relabel scope env) (hs : env.scope = sc) (h : (scope.names.map fun (n, k) => if (k == .free && sc.kind == .function && sc.names.lookup n == some .cell) then (n, .cell) else (n, k)).lookup x = some .globalImplicit) : Gl X x := by
  show X.env.scope.names.lookup x = _
  rw [hX]
  exact blk_look hs h
end Eg
namespace Eg
open PySem L2 PySem.W PySem.SeqAt PySem.Spec PyProof.Rows
/-! ## the law's call from the top -/
theorem quietTop {P : Program} {w : World} {H : Hp} {s s' : Shared} {e : Value} (h : L2.CX P w [] H s (fun _ _ _ => False) e s') : False := by
  obtain ⟨_, _, _, _, _, _, _, _, _, _, _, _, z⟩ := h
  exact z
/-- a heap that tracks the script and nothing else -/
theorem script_heap {P : Program} {w : World} {K : PySem.W.Frag} {h : Heap} {a : Addr} {vs : List Value} {ns : List Int} (KX : K.In h) (ha : h.get? a = some { cls := .type "list", data := .seq vs.toArray }) (hi : IntsAre vs ns) (hl : ns.length ≤ sizeLine) :
    ∃ H : Hp, SqL K H a (ns.map V.int) ∧ HOk P w H h ∧ ∀ b, H b = none ∨ (b = a ∧ K.lookup a = none ∧ ∃ o, H b = some (.frz o (.lst (ns.map V.int)))) := by
  have rv := vals_ints hi
  cases hk : K.lookup a with
  | some o =>
    refine ⟨fun _ => none, .inr ⟨o, vs.toArray, ?_⟩, fun b u z => (by cases z), fun b => .inl rfl⟩
    have same := KX a o hk
    rw [ha] at same
    cases same
    exact ⟨_, hk, rfl, rfl, rfl, by simpa [hi.length] using hl, by simpa using rv⟩
  | none =>
    refine ⟨upd (fun _ => none) a (.frz { cls := .type "list", data := .seq vs.toArray } (.lst (ns.map V.int))), .inl (.inr ⟨_, upd_same⟩), fun b u z => ?_, fun b => ?_⟩
    · by_cases q : b = a
      · subst q
        rw [upd_same] at z
        cases z
        exact ⟨ha, by simpa using hl, vs, _, rv, ha⟩
      · rw [upd_ne q] at z; cases z
    · by_cases q : b = a
      · subst q; exact .inr ⟨rfl, rfl, _, upd_same⟩
      · exact .inl (upd_ne q)
theorem law_top {P : Program} {w : World} {K : PySem.W.Frag} {mg mb : Str → Option Value} {k : Nat} {fa a : Addr} {fd : FuncData} {x : Str} {sp : Sp} {sT : Shared} {vs : List Value} {ns : List Int}
    (KX : K.In sT.heap) (hns : sT.heap.Ns mainGlobals mg) (hb : sT.heap.Ns builtinsNs mb) (hbb : ∀ x : Str, x ≠ "__name__" → mb x = bootBuiltins x) (hlim : sT.heap.NoLimit) (hgen : sT.gens = #[])
    (ha : sT.heap.get? a = some { cls := .type "list", data := .seq vs.toArray }) (hi : IntsAre vs ns) (hr : Room k callerA) (hl : ns.length ≤ sizeLine)
    (F : ∀ base : Heap, FnG P w K mg base (L2.CX P w) k fa fd [x] sp) (hbind : ∀ (s : Shared) (u : Value), BindsTo s fd ⟨[u], []⟩ [(x, u)])
    (hsp : ∀ H : Hp, SqL K H a (ns.map V.int) → sp [.ref a] H (fun v _ => v = .bl true) fun _ _ _ => False) :
    codeAny (model P w) callerA (.call (.ref fa) ⟨[.ref a], []⟩) (fun r s' => r = .ok (.ret (.bool true)) ∧ OldK sT.heap s'.heap ∧ s'.os = sT.os ∧ AllBare s'.gens) sT := by
  obtain ⟨H, sq, ok, only⟩ := script_heap (P := P) (w := w) KX ha hi hl
  -- an object that isn't the script's is in the ground
  have up : ∀ {b : Addr} {o : Obj}, sT.heap.get? b = some o → H b = none → (hidT sT.heap H).get? b = some o := fun e n => hidT_get e n
  have dictUp : ∀ {b : Addr} {m : Str → Option Value}, sT.heap.Ns b m → (hidT sT.heap H).Ns b m := fun {b m} ⟨o, es, ep, e, d, r⟩ => by
    rcases only b with z | ⟨z, _⟩
    · exact ⟨o, es, ep, up e z, d, r⟩
    · subst z
      rw [ha] at e
      cases e
      exact absurd (show Data.seq _ _ = Data.dict es ep from d) (by intro q; cases q)
  have kIn : K.In (hidT sT.heap H) := fun b o e => by
    rcases only b with z | ⟨z, z2, _⟩
    · exact up (KX b o e) z
    · subst z; rw [z2] at e; cases e
  obtain ⟨ml, l1, l2⟩ := hlim
  have md : Mod K mg (hidT sT.heap H) := ⟨kIn, dictUp hns, ⟨mb, dictUp hb, hbb⟩, ml, dictUp l1, l2⟩
  have e0 : Env0 P w K mg (hidT sT.heap H) callerA [] sT H := ⟨rfl, md, fun b o e => of_hidT e, Nat.le_of_eq (hidT_size _ _), trivial, fun b z => (by cases z), ok, .of_eq hgen⟩
  refine codeAny_mono ((F _).run callerA [] sT H ⟨[.ref a], []⟩ [.ref a] [.ref a] _ _ rfl hr e0 (hbind sT (.ref a)) (.cons rfl .nil) (hsp H sq)) fun r s' z => ?_
  match r, z with
  | .error e, z => exact (quietTop z).elim
  | .ok (.ret u), ⟨v, H', os, bare, un, ok', ru, ev⟩ =>
    have ev : v = .bl true := ev
    subst ev
    obtain rfl : u = Value.bool true := ru
    refine ⟨rfl, .of_keep fun b o e => ?_, os, bare⟩
    rcases only b with z | ⟨_, _, ob, z⟩
    · exact un.keep b o e z (fun y => by cases y) (fun y => by cases y)
    · have now := (ok' b _ (un.frzs b ob _ z)).1
      have was := (ok b _ z).1
      rw [e] at was
      cases was
      exact now
theorem law_walk {l : PySem.W.OpenLaw} {n k m : Nat} {q : Program} {loose : List Str} {XP : (Str → Option Value) → Heap → Prop} {YP : World → Heap → Prop} {d : DefRec} {K : Params → PySem.W.Frag} {x : Str} {body : M Out} {XR : Hp → Hp → Value → Option Addr → Xc → Prop}
    (hm1 : l.most = some n) (hm2 : n ≤ sizeLine) (hdf : d.params.defaults = []) (hr : Room k callerA) (hY : ∀ (w : World) (h : Heap), YP w h → (K w.params).In h)
    (F : ∀ (w : World) (mg : Str → Option Value) (fa : Addr) (hp : Heap), (K w.params).In hp → hp.Ns mainGlobals mg → mg d.name = some (.ref fa) →
      ∃ fd : FuncData, (∀ (s : Shared) (u : Value), BindsTo s fd ⟨[u], []⟩ [(x, u)]) ∧ ∀ base : Heap, FnG l.prog w (K w.params) mg base (L2.CX l.prog w) k fa fd [x] (spI (K w.params) w XR 1 (fnM m [false] body)))
    (true_ : ∀ ns : List Int, ns.length ≤ n → ∃ ρ, fnM m [false] body [some (.sc ns)] = .ok (.sh (.bool true)) ρ) :
    PySem.W.WalkO q loose XP YP l.row.toRowW d [] (fun f us => PySem.call f us) := by
  refine Att.attach_call hm1 hdf fun w sA sT mg mb fa o pm cd doc a vs ns G Y h1 h2 h3 hmg hobj hints hlen hg => ?_
  obtain ⟨fd, hb, hF⟩ := F w mg fa _ (hY w _ Y) G.T.g hmg
  refine law_top (hY w _ Y) G.T.g G.T.b G.T.builtins G.T.nolimit hg hobj hints hr (Nat.le_trans hlen hm2) hF hb fun H sq => ⟨rfl, H, [.sc ns], ⟨Same.refl _, rfl, fun i o h => ?_, fun i j o o' b ne h io => ?_⟩, ?_⟩
  · match i, h with
    | 0, h => cases h; exact ⟨_, rfl, a, rfl, sq⟩
  · match i, h with
    | 0, h => cases h; cases io
  · obtain ⟨ρ, e⟩ := true_ ns hlen
    show PostE _ _ _ _ _ _ _ (fnM m [false] body [some (.sc ns)])
    rw [e]
    intro F' H' v _ _ r
    have r := r.1
    cases r
    rfl
end Eg
namespace Eg
open PySem L2 PySem.W PySem.SeqAt
/-! ## what a term comes to: rules for terms that stand at a state -/
def Res.go {α β : Type} (x : Res α) (f : α → M β) : Res β := match x with
  | .ok a ρ => f a ρ
  | .ex x ρ => .ex x ρ
  | .bad => .bad
def Res.sq (x : Res Out) (n : M Out) : Res Out := match x with
  | .ok .nx ρ => n ρ
  | .ok (.rt r) ρ => .ok (.rt r) ρ
  | .ok .bk ρ => .ok .bk ρ
  | .ok .ct ρ => .ok .ct ρ
  | .ex x ρ => .ex x ρ
  | .bad => .bad
def Res.opt {α : Type} (x : Option α) (ρ : Rho) : Res α := match x with
  | some a => .ok a ρ
  | none => .bad
def Res.fin (io : List Bool) (x : Res Out) : Res OD := match x with
  | .ok (.rt r) ρ' => .ok r (keepIo io ρ')
  | .ok .nx ρ' => .ok (.sh .none) (keepIo io ρ')
  | .ex x ρ' => .ex x (keepIo io ρ')
  | _ => .bad
def slotD : Option (Option OD) → Option PyData
  | some (some (.sh d)) => some d
  | some (some (.ol xs)) => some (.list xs)
  | _ => none
section
variable {α β : Type} {ρ : Rho}
theorem v_bind (m : M α) (f : α → M β) : (m.bind f) ρ = (m ρ).go f := rfl
theorem v_go (a : α) (f : α → M β) : (Res.ok a ρ).go f = f a ρ := rfl
theorem v_ret (a : α) : M.ret a ρ = .ok a ρ := rfl
theorem v_get : M.get ρ = .ok ρ ρ := rfl
theorem v_lift (x : Option α) : M.lift x ρ = Res.opt x ρ := by cases x <;> rfl
theorem v_opt (a : α) : Res.opt (some a) ρ = .ok a ρ := rfl
theorem v_seq (m n : M Out) : sSeq m n ρ = (m ρ).sq n := by
  unfold sSeq M.bind Res.sq
  cases m ρ with
  | ok o r => cases o <;> rfl
  | _ => rfl
theorem v_sqn (n : M Out) : (Res.ok Out.nx ρ).sq n = n ρ := rfl
theorem v_sqr (r : OD) (n : M Out) : (Res.ok (Out.rt r) ρ).sq n = .ok (.rt r) ρ := rfl
theorem v_sqb (n : M Out) : (Res.ok Out.bk ρ).sq n = .ok .bk ρ := rfl
theorem v_sqc (n : M Out) : (Res.ok Out.ct ρ).sq n = .ok .ct ρ := rfl
theorem v_set (i : Nat) (m : M OD) : sSet i m ρ = (m ρ).go fun o => fun ρ => .ok .nx (ρ.set i (some o)) := rfl
theorem v_sret (m : M OD) : sRet m ρ = (m ρ).go fun r => M.ret (.rt r) := rfl
theorem v_if (t : M Bool) (a b : M Out) : sIf t a b ρ = (t ρ).go fun k => if k = true then a else b := rfl
theorem v_mif (t : M Bool) (a b : M α) : mIf t a b ρ = (t ρ).go fun k => if k = true then a else b := rfl
theorem v_next : sNext ρ = .ok .nx ρ := rfl
theorem v_expr (m : M PyData) : sExpr m ρ = (m ρ).go fun _ => M.ret .nx := rfl
theorem v_dat (d : PyData) : res1 ρ (.dat d) = some d := rfl
theorem v_slot (i : Nat) : res1 ρ (.slot i) = slotD ρ[i]? := rfl
theorem v_sd (d : PyData) : slotD (some (some (.sh d))) = some d := rfl
theorem v_so (d : List PyData) : slotD (some (some (.ol d))) = some (.list d) := rfl
def m2k {γ : Type} (g : PyData → PyData → Option γ) (a b : Arg) : M γ := fun ρ => Res.opt ((res1 ρ a).bind fun x => (res1 ρ b).bind fun y => g x y) ρ
theorem v_m2 {γ : Type} (g : PyData → PyData → Option γ) (ma mb : M Arg) : m2 g ma mb ρ = (ma ρ).go fun a => mb.bind fun b => m2k g a b := by
  refine congrArg (Res.go (ma ρ)) (funext fun a => funext fun r => ?_)
  exact congrArg (Res.go (mb r)) (funext fun b => funext fun r2 => v_lift _)
theorem v_m2k {γ : Type} (g : PyData → PyData → Option γ) (a b : Arg) : m2k g a b ρ = Res.opt ((res1 ρ a).bind fun x => (res1 ρ b).bind fun y => g x y) ρ := rfl
def m1k {γ : Type} (g : PyData → Option γ) (a : Arg) : M γ := fun ρ => Res.opt ((res1 ρ a).bind fun x => g x) ρ
theorem v_m1 {γ : Type} (g : PyData → Option γ) (ma : M Arg) : m1 g ma ρ = (ma ρ).go fun a => m1k g a :=
  congrArg (Res.go (ma ρ)) (funext fun a => funext fun r => v_lift _)
theorem v_m1k {γ : Type} (g : PyData → Option γ) (a : Arg) : m1k g a ρ = Res.opt ((res1 ρ a).bind fun x => g x) ρ := rfl
def mLk {γ : Type} (g : List PyData → Option γ) (as : List Arg) : M γ := fun ρ => Res.opt ((resL ρ as).bind fun x => g x) ρ
theorem v_mL {γ : Type} (g : List PyData → Option γ) (ms : M (List Arg)) : mL g ms ρ = (ms ρ).go fun as => mLk g as :=
  congrArg (Res.go (ms ρ)) (funext fun a => funext fun r => v_lift _)
theorem v_mLk {γ : Type} (g : List PyData → Option γ) (as : List Arg) : mLk g as ρ = Res.opt ((resL ρ as).bind fun x => g x) ρ := rfl
theorem v_rl0 : resL ρ [] = some [] := rfl
theorem v_rl1 (a : Arg) (as : List Arg) : resL ρ (a :: as) = (res1 ρ a).bind fun x => (resL ρ as).bind fun y => some (x :: y) := rfl
theorem v_nil : mNil ρ = .ok [] ρ := rfl
theorem v_cons (ma : M Arg) (ms : M (List Arg)) : mCons ma ms ρ = (ma ρ).go fun a => ms.bind fun as => M.ret (a :: as) := rfl
theorem v_fix {γ : Type} (g : List PyData → Option γ) (ms : M (List Arg)) : mFix g ms ρ = (ms ρ).go fun as => M.lift (do g (← fixL as)) := rfl
theorem v_fix0 : fixL [] = some [] := rfl
theorem v_fix1 (d : PyData) (as : List Arg) : fixL (.dat d :: as) = (fixL as).map (d :: ·) := rfl
theorem v_fzs (d : PyData) : fz (.sh d) = M.ret d := rfl
theorem v_fzo (d : List PyData) : fz (.ol d) = M.ret (.list d) := rfl
theorem v_ab (b : Bool) : asBool (.bool b) = M.ret b := rfl
theorem v_not (m : M Bool) : mNot m ρ = (m ρ).go fun b => M.ret (!b) := rfl
theorem v_and (a b : M Bool) : mAnd a b ρ = (a ρ).go fun k => if k = true then b else M.ret false := rfl
theorem v_or (a b : M Bool) : mOr a b ρ = (a ρ).go fun k => if k = true then M.ret true else b := rfl
theorem v_ai (i : Int) : asInt (.int i) = M.ret i := rfl
theorem v_fn (m : Nat) (io : List Bool) (b : M Out) : fnM m io b ρ = Res.fin io (b (ρ ++ List.replicate m none)) := by
  unfold fnM Res.fin
  cases b (ρ ++ List.replicate m none) with
  | ok o r => cases o <;> rfl
  | _ => rfl
theorem v_fin (io : List Bool) (r : OD) : Res.fin io (.ok (.rt r) ρ) = .ok r (keepIo io ρ) := rfl
theorem v_fin2 (io : List Bool) : Res.fin io (.ok .nx ρ) = .ok (.sh .none) (keepIo io ρ) := rfl
theorem v_kp0 (ρ : Rho) : keepIo [] ρ = [] := rfl
theorem v_kpt (io : List Bool) (o : Option OD) (ρ : Rho) : keepIo (true :: io) (o :: ρ) = o :: keepIo io ρ := rfl
theorem v_kpf (io : List Bool) (o : Option OD) (ρ : Rho) : keepIo (false :: io) (o :: ρ) = none :: keepIo io ρ := rfl
/-- slots -/
def slotO (x : Option (Option OD)) : Option OD := x.join
theorem v_slo (o : OD) : slotO (some (some o)) = some o := rfl
theorem v_mslot (i : Nat) : mSlot i ρ = Res.opt ((slotO ρ[i]?).map fun _ => .slot i) ρ := by
  unfold mSlot slotO
  split
  · rename_i h; rw [h]; rfl
  · rename_i h
    cases q : ρ[i]? with
    | none => rfl
    | some o => cases o with
      | none => rfl
      | some o => exact absurd q (h o)
def nameK (i : Nat) (x : Option (Option OD)) : M PyData := fun ρ => match x with
  | some (some (.sh d)) => .ok d ρ
  | some (some (.ol xs)) => .ok (.list xs) (ρ.set i (some (.sh (.list xs))))
  | _ => .bad
theorem v_name (i : Nat) : mName i ρ = nameK i ρ[i]? ρ := by
  unfold mName nameK
  cases ρ[i]? with
  | none => rfl
  | some o => cases o with
    | none => rfl
    | some o => cases o <;> rfl
theorem v_nms (i : Nat) (d : PyData) : nameK i (some (some (.sh d))) ρ = .ok d ρ := rfl
theorem v_nmo (i : Nat) (d : List PyData) : nameK i (some (some (.ol d))) ρ = .ok (.list d) (ρ.set i (some (.sh (.list d)))) := rfl
def takeK (i : Nat) (x : Option (Option OD)) : M OD := fun ρ => match x with
  | some (some (.sc _)) => .bad
  | some (some o) => .ok o (ρ.set i none)
  | _ => .bad
theorem v_take (i : Nat) : mTake i ρ = takeK i ρ[i]? ρ := by
  unfold mTake takeK
  cases ρ[i]? with
  | none => rfl
  | some o => cases o with
    | none => rfl
    | some o => cases o <;> rfl
theorem v_tks (i : Nat) (d : PyData) : takeK i (some (some (.sh d))) ρ = .ok (.sh d) (ρ.set i none) := rfl
theorem v_tko (i : Nat) (d : List PyData) : takeK i (some (some (.ol d))) ρ = .ok (.ol d) (ρ.set i none) := rfl
def hasK {γ : Type} (x : Option (Option OD)) (m : M γ) : M γ := fun ρ => match x with
  | some (some _) => m ρ
  | _ => .bad
theorem v_has {γ : Type} (i : Nat) (m : M γ) : mHas i m ρ = hasK ρ[i]? m ρ := by
  unfold mHas hasK
  cases ρ[i]? with
  | none => rfl
  | some o => cases o <;> rfl
theorem v_hask {γ : Type} (o : OD) (m : M γ) : hasK (some (some o)) m ρ = m ρ := rfl
def dgO (x : Option (Option OD)) (k : Key) : M PyData := fun ρ => match x with
  | some (some (.od kvs)) => Res.opt (dGet kvs k) ρ
  | _ => .bad
def dgk (i : Nat) (kd : PyData) : M PyData := fun ρ => match keyD kd with
  | some k => dgO ρ[i]? k ρ
  | none => .bad
theorem v_dget (i : Nat) (mk : M PyData) : mDGet i mk ρ = (mk ρ).go (dgk i) := by
  refine congrArg (Res.go (mk ρ)) (funext fun a => funext fun r => ?_)
  unfold dgk dgO
  cases Eg.keyD a with
  | none => rfl
  | some k =>
    cases q : r[i]? with
    | none => rfl
    | some o => cases o with
      | none => rfl
      | some o => cases o with
        | od kvs =>
          show (match dGet kvs k with | some d => Res.ok d r | none => Res.bad) = Res.opt (dGet kvs k) r
          cases dGet kvs k <;> rfl
        | _ => rfl
theorem v_dgk (i : Nat) (x : Str) : dgk i (.str x) ρ = dgO ρ[i]? (.inr x) ρ := rfl
theorem v_dgo (kvs : List (Key × PyData)) (k : Key) : dgO (some (some (.od kvs))) k ρ = Res.opt (dGet kvs k) ρ := rfl
def putO (x : Option (Option OD)) (i : Nat) (k : Key) (d : PyData) : M Out := fun ρ => match x with
  | some (some (.od kvs)) => if kvs.length < sizeLine then .ok .nx (ρ.set i (some (.od (dPut kvs k d)))) else .bad
  | _ => .bad
def putk (i : Nat) (d kd : PyData) : M Out := fun ρ => match keyD kd with
  | some k => putO ρ[i]? i k d ρ
  | none => .bad
theorem v_put (i : Nat) (mv mk : M PyData) : sPut i mv mk ρ = (mv ρ).go fun d => mHas i (mk.bind (putk i d)) := by
  refine congrArg (Res.go (mv ρ)) (funext fun d => congrArg (mHas i) (funext fun r => congrArg (Res.go (mk r)) (funext fun a => funext fun r2 => ?_)))
  unfold putk putO
  cases Eg.keyD a with
  | none => rfl
  | some k =>
    cases q : r2[i]? with
    | none => rfl
    | some o => cases o with
      | none => rfl
      | some o => cases o <;> rfl
theorem v_putk (i : Nat) (x : Str) (d : PyData) : putk i d (.str x) ρ = putO ρ[i]? i (.inr x) d ρ := rfl
theorem v_puto (i : Nat) (k : Key) (d : PyData) (kvs : List (Key × PyData)) : putO (some (some (.od kvs))) i k d ρ = if kvs.length < sizeLine then .ok .nx (ρ.set i (some (.od (dPut kvs k d)))) else .bad := rfl
def apO (x : Option (Option OD)) (i : Nat) (d : PyData) : M PyData := fun ρ => match x with
  | some (some (.ol xs)) => if xs.length < sizeLine then .ok .none (ρ.set i (some (.ol (xs ++ [d])))) else .bad
  | _ => .bad
theorem v_app (i : Nat) (m : M PyData) : mAppend i m ρ = (m ρ).go fun d => fun ρ => apO ρ[i]? i d ρ := by
  refine congrArg (Res.go (m ρ)) (funext fun a => funext fun r => ?_)
  unfold apO
  cases r[i]? with
  | none => rfl
  | some o => cases o with
    | none => rfl
    | some o => cases o <;> rfl
theorem v_apo (i : Nat) (d : PyData) (xs : List PyData) : apO (some (some (.ol xs))) i d ρ = if xs.length < sizeLine then .ok .none (ρ.set i (some (.ol (xs ++ [d])))) else .bad := rfl
def olK {γ : Type} (x : Option (Option OD)) (m : M γ) : M γ := fun ρ => match x with
  | some (some (.ol _)) => m ρ
  | _ => .bad
theorem v_ol {γ : Type} (i : Nat) (m : M γ) : mOl i m ρ = olK ρ[i]? m ρ := by
  unfold mOl isOl olK
  cases ρ[i]? with
  | none => rfl
  | some o => cases o with
    | none => rfl
    | some o => cases o <;> rfl
theorem v_olk {γ : Type} (xs : List PyData) (m : M γ) : olK (some (some (.ol xs))) m ρ = m ρ := rfl
/-! calls -/
def coR (i : Nat) (ρ : Rho) : Res OD → Res OD
  | .ok r ρa => .ok r (ρ.set i (ρa[0]?.join))
  | .ex x ρa => .ex x (ρ.set i (ρa[0]?.join))
  | .bad => .bad
def coO (x : Option (Option OD)) (i : Nat) (f : Fn) (os : Option (List OD)) : M OD := fun ρ => match x, os with
  | some (some o), some os => if o.isO = true then coR i ρ (f ((o :: os).map some)) else .bad
  | _, _ => .bad
def coK (f : Fn) : List Arg → M OD
  | .slot i :: as => fun ρ => coO ρ[i]? i f (argsS ρ as) ρ
  | _ => M.bad
theorem v_callO (f : Fn) (ms : M (List Arg)) : mCallO f ms ρ = (ms ρ).go (coK f) := by
  refine congrArg (Res.go (ms ρ)) (funext fun as => funext fun r => ?_)
  cases as with
  | nil => rfl
  | cons a as =>
    cases a with
    | dat d => rfl
    | slot i =>
      show _ = coO r[i]? i f (argsS r as) r
      unfold coO
      simp only
      cases r[i]? with
      | none => rfl
      | some o => cases o with
        | none => rfl
        | some o =>
          cases argsS r as with
          | none => rfl
          | some os =>
            simp only
            split
            · cases f (List.map some (o :: os)) <;> rfl
            · rfl
theorem v_coK (f : Fn) (i : Nat) (as : List Arg) : coK f (.slot i :: as) ρ = coO ρ[i]? i f (argsS ρ as) ρ := rfl
theorem v_coO (i : Nat) (f : Fn) (kvs : List (Key × PyData)) (os : List OD) : coO (some (some (.od kvs))) i f (some os) ρ = coR i ρ (f (some (.od kvs) :: os.map some)) := rfl
theorem v_coR (i : Nat) (r : OD) (o : Option OD) (ρa : Rho) : coR i ρ (.ok r (o :: ρa)) = .ok r (ρ.set i o) := rfl
theorem v_as0 : argsS ρ [] = some [] := rfl
theorem v_asd (d : PyData) (as : List Arg) : argsS ρ (.dat d :: as) = (argsS ρ as).map (.sh d :: ·) := by
  show ((argsS ρ as).bind fun y => some (OD.sh d :: y)) = _
  cases argsS ρ as <;> rfl
def asO : Option (Option OD) → Option OD
  | some (some (.sh d)) => some (.sh d)
  | some (some (.sc ns)) => some (.sc ns)
  | some (some (.sn kvs)) => some (.sn kvs)
  | _ => none
theorem v_ass (i : Nat) (as : List Arg) : argsS ρ (.slot i :: as) = (asO ρ[i]?).bind fun o => (argsS ρ as).map (o :: ·) := by
  have e : argS ρ (.slot i) = asO ρ[i]? := by
    have ea : argO ρ (.slot i) = (ρ[i]?).join := rfl
    unfold argS asO
    rw [ea]
    cases ρ[i]? with
    | none => rfl
    | some o => cases o with
      | none => rfl
      | some o => cases o <;> rfl
  show ((argS ρ (.slot i)).bind fun x => (argsS ρ as).bind fun y => some (x :: y)) = _
  rw [e]
  cases asO ρ[i]? <;> cases argsS ρ as <;> rfl
theorem v_asod (d : PyData) : asO (some (some (.sh d))) = some (.sh d) := rfl
theorem v_ason (kvs : List (PyData × PyData)) : asO (some (some (.sn kvs))) = some (.sn kvs) := rfl
theorem v_asoc (ns : List Int) : asO (some (some (.sc ns))) = some (.sc ns) := rfl
def caR (ρ : Rho) : Res OD → Res OD
  | .ok r _ => .ok r ρ
  | .ex x _ => .ex x ρ
  | .bad => .bad
def caO (f : Fn) (os : Option (List OD)) : M OD := fun ρ => match os with
  | some os => caR ρ (f (os.map some))
  | none => .bad
theorem v_call (f : Fn) (ms : M (List Arg)) : mCall f ms ρ = (ms ρ).go fun as => fun ρ => caO f (argsS ρ as) ρ := by
  refine congrArg (Res.go (ms ρ)) (funext fun as => funext fun r => ?_)
  unfold caO
  cases argsS r as with
  | none => rfl
  | some os =>
    simp only
    cases f (List.map some os) <;> rfl
theorem v_caO (f : Fn) (os : List OD) : caO f (some os) ρ = caR ρ (f (os.map some)) := rfl
theorem v_caR (r : OD) (ρa : Rho) : caR ρ (.ok r ρa) = .ok r ρ := rfl
/-! loops -/
def lpK (t : Tgt) (b : M Out) (xs : List PyData) (x : Res Out) : Res Out := match x with
  | .ok .nx ρ => sLoop t b xs ρ
  | .ok .ct ρ => sLoop t b xs ρ
  | .ok .bk ρ => .ok .nx ρ
  | .ok (.rt r) ρ => .ok (.rt r) ρ
  | .ex x ρ => .ex x ρ
  | .bad => .bad
def lpO (t : Tgt) (b : M Out) (xs : List PyData) : Option Rho → Res Out
  | some ρ => lpK t b xs (b ρ)
  | none => .bad
theorem v_for (s : M (List PyData)) (t : Tgt) (b : M Out) : sFor s t b ρ = (s ρ).go fun xs => sLoop t b xs := rfl
theorem v_lp0 (t : Tgt) (b : M Out) : sLoop t b [] ρ = .ok .nx ρ := rfl
theorem v_lp1 (t : Tgt) (b : M Out) (x : PyData) (xs : List PyData) : sLoop t b (x :: xs) ρ = lpO t b xs (t x ρ) := by
  simp only [sLoop]
  cases t x ρ with
  | none => rfl
  | some r =>
    simp only [lpO, M.bind, lpK]
    cases b r with
    | ok o r2 => cases o <;> rfl
    | _ => rfl
theorem v_lpO (t : Tgt) (b : M Out) (xs : List PyData) : lpO t b xs (some ρ) = lpK t b xs (b ρ) := rfl
theorem v_lpn (t : Tgt) (b : M Out) (xs : List PyData) : lpK t b xs (.ok .nx ρ) = sLoop t b xs ρ := rfl
theorem v_lpr (t : Tgt) (b : M Out) (xs : List PyData) (r : OD) : lpK t b xs (.ok (.rt r) ρ) = .ok (.rt r) ρ := rfl
theorem v_tn (i : Nat) (d : PyData) : tName i d ρ = some (ρ.set i (some (.sh d))) := rfl
theorem v_sil (ds : List PyData) : seqItems (.list ds) = M.ret ds := rfl
theorem v_sit (ds : List PyData) : seqItems (.tuple ds) = M.ret ds := rfl
theorem v_par (i j : Nat) (ma mb : M OD) : sPar i j ma mb ρ = (ma ρ).go fun u => mb.bind fun w => fun ρ => .ok .nx ((ρ.set i (some u)).set j (some w)) := rfl
theorem v_un (m : M PyData) (t : Tgt) : sUn m t ρ = (m ρ).go fun d => fun ρ => Res.opt ((t d ρ).map fun _ => Out.nx) ((t d ρ).getD ρ) := by
  unfold sUn M.bind Res.go
  cases m ρ with
  | ok a r => simp only; cases t a r <;> rfl
  | _ => rfl
end
end Eg
local macro_rules | `(tactic| simp? only [$ls,*]) => `(tactic| simp -implicitDefEqProofs only [Eg.v_bind, Eg.v_go, Eg.v_ret, Eg.v_get, Eg.v_lift, Eg.v_opt, Eg.v_seq, Eg.v_sqn, Eg.v_sqr, Eg.v_sqb, Eg.v_sqc, Eg.v_set, Eg.v_sret, Eg.v_if, Eg.v_mif, Eg.v_next, Eg.v_expr, Eg.v_dat, Eg.v_slot, Eg.v_sd, Eg.v_so, Eg.v_m2, Eg.v_m2k, Eg.v_m1, Eg.v_m1k, Eg.v_mL, Eg.v_mLk, Eg.v_rl0, Eg.v_rl1, Eg.v_nil, Eg.v_cons, Eg.v_fix, Eg.v_fix0, Eg.v_fix1, Eg.v_fzs, Eg.v_fzo, Eg.v_ab, Eg.v_not, Eg.v_and, Eg.v_or, Eg.v_ai, Eg.v_fn, Eg.v_fin, Eg.v_fin2, Eg.v_kp0, Eg.v_kpt, Eg.v_kpf, Eg.v_slo, Eg.v_mslot, Eg.v_name, Eg.v_nms, Eg.v_nmo, Eg.v_take, Eg.v_tks, Eg.v_tko, Eg.v_has, Eg.v_hask, Eg.v_dget, Eg.v_dgk, Eg.v_dgo, Eg.v_put, Eg.v_putk, Eg.v_puto, Eg.v_app, Eg.v_apo, Eg.v_ol, Eg.v_olk, Eg.v_callO, Eg.v_coK, Eg.v_coO, Eg.v_coR, Eg.v_as0, Eg.v_asd, Eg.v_ass, Eg.v_asod, Eg.v_asoc, Eg.v_ason, Eg.v_call, Eg.v_caO, Eg.v_caR, Eg.v_for, Eg.v_lpO, Eg.v_lpn, Eg.v_lpr, Eg.v_tn, Eg.v_sil, Eg.v_sit, Eg.v_par, Eg.v_un, List.map_cons, List.map_nil, List.getElem?_cons_zero, List.getElem?_cons_succ, List.set_cons_zero, List.set_cons_succ, List.replicate_succ, List.replicate_zero, List.cons_append, List.nil_append, Option.bind_eq_bind, Option.bind_some, Option.map_some, if_true, Bool.false_eq_true, if_false, Bool.not_true, Bool.not_false, $ls,*])

namespace Eg
open PySem L2 PySem.W PySem.SeqAt
section
variable {ρ : Rho}
def scrK (x : Option (Option OD)) (l h : Option Int) : M OD := fun ρ => match x with
  | some (some (.sc ns)) => .ok (.ol (cutD (ns.map .int) l h)) ρ
  | _ => .bad
theorem v_scr (i : Nat) (l h : Option Int) : mScr i (M.ret l) (M.ret h) ρ = scrK ρ[i]? l h ρ := by
  unfold mScr scrK
  cases ρ[i]? with
  | none => rfl
  | some o => cases o with
    | none => rfl
    | some o => cases o <;> rfl
theorem v_pt63 (j : Int) : ((M.ret (PyData.int j)).bind fun d => (asInt d).bind fun i => M.ret (some i)) = M.ret (some j) := rfl
theorem v_scrk (ns : List Int) (l h : Option Int) : scrK (some (some (.sc ns))) l h ρ = .ok (.ol (cutD (ns.map .int) l h)) ρ := rfl
theorem v_disp (l : List (Str × M PyData)) : mDisp l ρ = (mPairs l ρ).go fun ds => M.ret (.od (dMerge [] ds)) := rfl
theorem v_ps0 : mPairs [] ρ = .ok [] ρ := rfl
theorem v_ps1 (k : Str) (m : M PyData) (r : List (Str × M PyData)) : mPairs ((k, m) :: r) ρ = (m ρ).go fun d => (mPairs r).bind fun ds => M.ret ((.inr k, d) :: ds) := rfl
def whK (mt : M Bool) (b : M Out) (n : Nat) (x : Res Out) : Res Out := match x with
  | .ok .nx ρ => sWhile mt b n ρ
  | .ok .ct ρ => sWhile mt b n ρ
  | .ok .bk ρ => .ok .nx ρ
  | .ok (.rt r) ρ => .ok (.rt r) ρ
  | .ex x ρ => .ex x ρ
  | .bad => .bad
theorem v_wh (mt : M Bool) (b : M Out) (n : Nat) : sWhile mt b (n + 1) ρ = (mt ρ).go fun k => if k = true then (fun ρ => whK mt b n (b ρ)) else sNext := by
  refine congrArg (Res.go (mt ρ)) (funext fun k => ?_)
  cases k with
  | false => rfl
  | true =>
    simp only [if_true]
    funext r
    unfold whK
    show Res.go (b r) _ = _
    unfold Res.go
    cases b r with
    | ok o r2 => cases o <;> rfl
    | _ => rfl
theorem v_whn (mt : M Bool) (b : M Out) (n : Nat) : whK mt b n (.ok .nx ρ) = sWhile mt b n ρ := rfl
def popO (x : Option (Option OD)) (i : Nat) (d : PyData) : M PyData := fun ρ => match d, x with
  | .int j, some (some (.ol xs)) => if -(2 ^ 63) ≤ j ∧ j < 2 ^ 63 then (match seqIndex? j xs.length with
      | some k => (match xs[k]? with
        | some y => .ok y (ρ.set i (some (.ol (xs.eraseIdx k))))
        | none => .bad)
      | none => .bad) else .bad
  | _, _ => .bad
theorem v_pop (i : Nat) (m : M PyData) : mPopAt i m ρ = (m ρ).go fun d => fun ρ => popO ρ[i]? i d ρ := rfl
theorem v_popk {i : Nat} {xs : List PyData} {j : Int} (h0 : 0 ≤ j) (h1 : j < xs.length) (h2 : xs.length < 2 ^ 62) : ∃ y, xs[j.toNat]? = some y ∧ ∀ ρ, popO (some (some (.ol xs))) i (.int j) ρ = .ok y (ρ.set i (some (.ol (xs.eraseIdx j.toNat)))) := by
  have hl : j.toNat < xs.length := by omega
  refine ⟨xs[j.toNat], List.getElem?_eq_getElem hl, fun ρ => ?_⟩
  have e : seqIndex? j xs.length = some j.toNat := by
    have hn : ¬ j < 0 := by omega
    unfold seqIndex?
    simp [h0, h1, hn]
  unfold popO
  simp only
  rw [if_pos ⟨by omega, by omega⟩]
  simp only [e, List.getElem?_eq_getElem hl]
def cpK (x : Res (List PyData)) (ρ : Rho) (vs : List Nat) : Res OD := match x with
  | .ok acc ρ' => if ρ'.length = ρ.length then .ok (.ol acc) (restR ρ ρ' vs) else .bad
  | _ => .bad
theorem v_comp (s : M (List PyData)) (t : Tgt) (mt : M Bool) (me : M PyData) (vs : List Nat) : mComp s t mt me vs ρ = (s ρ).go fun xs => fun ρ => cpK (lcGo t mt me vs xs [] ρ) ρ vs := by
  refine congrArg (Res.go (s ρ)) (funext fun xs => funext fun r => ?_)
  unfold cpK
  cases lcGo t mt me vs xs [] r <;> rfl
theorem v_comp2 (s : M (List PyData)) (t : Tgt) (mt : M Bool) (s1 : M (List PyData)) (t1 : Tgt) (mt1 : M Bool) (me : M PyData) (vs vs1 : List Nat) : mComp2 s t mt s1 t1 mt1 me vs vs1 ρ = (s ρ).go fun xs => fun ρ => cpK (lc2Go t mt s1 t1 mt1 me vs vs1 xs [] ρ) ρ vs := by
  refine congrArg (Res.go (s ρ)) (funext fun xs => funext fun r => ?_)
  unfold cpK
  cases lc2Go t mt s1 t1 mt1 me vs vs1 xs [] r <;> rfl
theorem v_cpk (acc : List PyData) (ρ' : Rho) (vs : List Nat) (h : ρ'.length = ρ.length) : cpK (.ok acc ρ') ρ vs = .ok (.ol acc) (restR ρ ρ' vs) := if_pos h
/-- a comprehension without tests over data, its items told one by one -/
theorem lc_map {t : Tgt} {me : M PyData} {vs : List Nat} {Inv : Rho → Prop} (g : PyData → PyData) : ∀ (xs acc : List PyData) (ρ : Rho), Inv ρ → acc.length + xs.length ≤ sizeLine →
    (∀ x ∈ xs, ∀ ρ, Inv ρ → ∃ ρ1 ρ2, t x (wipeR ρ vs) = some ρ1 ∧ me ρ1 = .ok (g x) ρ2 ∧ Inv ρ2) → ∃ ρ', Inv ρ' ∧ lcGo t (M.ret true) me vs xs acc ρ = .ok (acc ++ xs.map g) ρ'
  | [], acc, ρ, i, _, _ => ⟨ρ, i, by rw [List.map_nil, List.append_nil]; rfl⟩
  | x :: xs, acc, ρ, i, hl, h => by
    obtain ⟨ρ1, ρ2, e1, e2, i2⟩ := h x List.mem_cons_self ρ i
    rw [List.length_cons] at hl
    obtain ⟨ρ', i', e'⟩ := lc_map g xs (acc ++ [g x]) ρ2 i2 (by rw [List.length_append, List.length_singleton]; omega) fun y hy => h y (List.mem_cons_of_mem _ hy)
    refine ⟨ρ', i', ?_⟩
    simp only [lcGo, e1, M.ret, e2]
    rw [if_pos (by omega), e', List.map_cons, List.append_assoc]
    rfl
theorem v_wp0 : wipeR ρ [] = ρ := rfl
theorem v_wp1 (v : Nat) (vs : List Nat) : wipeR ρ (v :: vs) = (wipeR ρ vs).set v none := rfl
theorem v_rs0 (ρ0 : Rho) : restR ρ0 ρ [] = ρ := rfl
theorem v_rs1 (ρ0 : Rho) (v : Nat) (vs : List Nat) : restR ρ0 ρ (v :: vs) = (restR ρ0 ρ vs).set v (ρ0[v]?.join) := rfl
theorem v_sl (ma : M Arg) (ml mh : M (Option Int)) : mSl ma ml mh ρ = (ma ρ).go fun a => ml.bind fun l => mh.bind fun h => fun ρ => Res.opt ((res1 ρ a).bind fun d => gSl d l h) ρ := by
  refine congrArg (Res.go (ma ρ)) (funext fun a => funext fun r => congrArg (Res.go (ml r)) (funext fun l => funext fun r2 => congrArg (Res.go (mh r2)) (funext fun h => funext fun r3 => v_lift _)))
end
end Eg
namespace Eg
open PySem L2 PySem.W PySem.SeqAt
/-! ## keywords -/
theorem rAs.append {K : Kw} {F : Hp} {σ : St} : ∀ {vs ws : List V} {as bs : List Arg}, rAs K F σ vs as → rAs K F σ ws bs → rAs K F σ (vs ++ ws) (as ++ bs)
  | _, _, _, _, .nil, h => h
  | _, _, _, _, .dat d t, h => .dat d (rAs.append t h)
  | _, _, _, _, .slot d t, h => .slot d (rAs.append t h)
def mApp (ms mk : M (List Arg)) : M (List Arg) := ms.bind fun as => mk.bind fun bs => M.ret (as ++ bs)
section
variable {X : Cx} {C : Ct} {e a b : Expr} {es : List Expr} {pos p kpos : Pos} {k : Nat} {f : Addr} {fd : FuncData} {ps ks : List Str} {x : Str} {n n1 n2 : Nat} {m : Fn} {kws : List Keyword} {nm : Option Str}
theorem k_nil : PK X [] (tL C mNil) := ⟨fun pos pins s σ H Q I ⟨F, ρ, sr, p⟩ => pk_nil.run pos pins s σ H Q I (p F H [] Grow.refl sr .nil)⟩
theorem k_cons {ma : M Arg} {ms : M (List Arg)} (ha : PE X e (tA C ma)) (hr : PK X kws (tL C ms)) : PK X (⟨nm, e, kpos⟩ :: kws) (tL C (mCons ma ms)) := by
  refine ⟨fun pos pins s σ H Q I ⟨F, ρ, sr, p⟩ => (pk_cons ha hr).run pos pins s σ H Q I ?_⟩
  refine one sr stb_L p fun x a ρ1 F1 H1 s1 g1 r1 q1 => ?_
  refine ⟨F1, ρ1, s1, q1.part fun as ρ2 F2 H2 xs e2 q2 g2 s2 r2 => ?_⟩
  refine q2 F2 H2 (x :: xs) g2 s2 ?_
  cases a with
  | dat d => exact .dat (DV.mono g2.ext r1) r2
  | slot i => exact .slot r1 r2
/-- how the call's values are bound: those by place, then those by name, in the order of the parameters -/
def BindsK (K : PySem.W.Frag) (fd : FuncData) (ps ks : List Str) (n1 n2 : Nat) : Prop := ∀ (s : Shared) (us ws : List Value), K.In s.heap → us.length = n1 → ws.length = n2 → BindsTo s fd ⟨us, ks.zip ws⟩ (ps.zip (us ++ ws))
theorem o_fnK {ms mk : M (List Arg)} (F : FnG X.prog X.w X.K X.mg X.base (L2.CX X.prog X.w) k f fd ps (spI X.K X.w C.XR (n1 + n2) m)) (hG : X.A.guards = some []) (hr : Room k X.A) (hg : Gl X x) (hm : X.mg x = some (.ref f)) (hk : PySem.W.keepIn X.K (.ref f) = true) (hb : BindsK X.K fd ps ks n1 n2) (tk : Takes X C.W) (ha : PA X (e :: es) (tL C ms)) (hkw : PK X kws (tL C mk))
    (h1 : LenOk ms n1) (h2 : LenOk mk n2) (hall : (backToKw pos (keywordEach kws X.env)).all (·.1.isSome) = true := by rfl) (hks : (backToKw pos (keywordEach kws X.env)).filterMap (·.1) = ks := by rfl)
    (hdb : (x == ("__debug__" : Str)) = false := by decide) (he : starEach (e :: es) X.env = (false, eval e X.env) :: starEach es X.env := by rfl)
    (hpl : ((backTo pos (starEach (e :: es) X.env)).any (·.1) || (backToKw pos (keywordEach kws X.env)).any (·.1.isNone)) = false := by rfl) (hK : X.KW = C.K := by rfl) : PE X (.Call (.Name x p) (e :: es) kws pos) (tO C (mCall m (mApp ms mk))) := by
  refine ⟨fun pins s σ H Q I ⟨F0, ρ, sr, pp⟩ => ?_⟩
  refine wpAny_Call_Name_kw (ld_glob I hg hm ?_ hdb)
  -- what is asked of the values
  have go : tL C ms σ H fun vs H1 => tL C mk σ H1 fun zs H2 => (vs.length = n1 ∧ zs.length = n2) ∧ spI X.K X.w C.XR (n1 + n2) m (vs ++ zs) H2 Q (WE C.W σ) := by
    refine ⟨F0, ρ, sr, ?_⟩
    have pp' : PostE C (rO C.K) σ ρ F0 H Q ((ms.bind fun as => mk.bind fun bs => fun ρ => match argsS ρ (as ++ bs) with
      | some os => (match m (os.map some) with
        | .ok r _ => .ok r ρ
        | .ex x _ => .ex x ρ
        | .bad => .bad)
      | none => .bad) ρ) := by
      have e : mCall m (mApp ms mk) ρ = (ms.bind fun as => mk.bind fun bs => fun ρ => match argsS ρ (as ++ bs) with
        | some os => (match m (os.map some) with
          | .ok r _ => .ok r ρ
          | .ex x _ => .ex x ρ
          | .bad => .bad)
        | none => .bad) ρ := by
        unfold mCall mApp M.bind M.ret
        cases ms ρ with
        | ok as ρ1 =>
          simp only
          cases mk ρ1 <;> rfl
        | _ => rfl
      rw [e] at pp
      exact pp
    refine PostE.part (RA := rL C.K) pp' fun as ρ1 F1 H1 xs e1 q1 g1 s1 r1 => ?_
    have q1 := q1.on stb_O g1
    refine ⟨F1, ρ1, s1, PostE.part (RA := rL C.K) q1 fun bs ρ2 F2 H2 zs e2 q2 g2 s2 r2 => ?_⟩
    have q2 := q2.on stb_O g2
    have l1 : xs.length = n1 := by rw [r1.len]; exact h1 _ _ _ e1
    have l2 : zs.length = n2 := by rw [r2.len]; exact h2 _ _ _ e2
    refine ⟨⟨l1, l2⟩, ?_⟩
    have ra := (rAs.mono g2.ext r1).append r2
    cases ea : argsS ρ2 (as ++ bs) with
    | none => simp only [ea] at q2; exact q2.elim
    | some os =>
      simp only [ea] at q2
      obtain ⟨k1, k2⟩ := argsS_at s2 ra ea
      obtain ⟨sa, no⟩ := SR.args s2 k1 k2
      refine ⟨by rw [List.length_append, l1, l2], F2, os, (show (⟨X.K, X.w⟩ : Kw) = C.K from hK) ▸ sa, ?_⟩
      rw [show (⟨X.K, X.w⟩ : Kw) = C.K from hK]
      cases e3 : m (os.map some) with
      | bad => simp only [e3] at q2; exact q2.elim
      | ok r ρa =>
        simp only [e3] at q2
        intro F' H' v g' s' ro
        obtain ⟨s3, g3⟩ := s2.after0 no g' s'.sub
        refine q2 F' H' v g3 s3 ⟨ro.1, fun io a ea => ?_⟩
        have hn : H2 a = none := ((ro.2 io a ea).2).resolve_right (no a)
        refine ⟨fun z => ?_, .inl hn⟩
        obtain ⟨_, u, hu⟩ := own.at s2 z
        rw [hn] at hu; cases hu
      | ex y ρa =>
        simp only [e3] at q2
        intro F' H' cls d g' s' xr
        obtain ⟨s3, g3⟩ := s2.after0 no g' s'.sub
        exact q2 F' H' cls d g3 s3 xr
  refine PySem.W.callWith_KW (h₀ := X.base) I.ok.mod.kin hk hall (thn (ha.run pos pins s σ H _ I go) fun us s1 ⟨vs, H1, I1, r, q⟩ => ?_) hpl he
  refine thn (hkw.run pos pins s1 σ H1 _ I1 q) fun ws s2 ⟨zs, H2, I2, rz, ⟨l1, l2⟩, q2⟩ => ⟨I2.kIn, ?_⟩
  rw [hks]
  have bt := hb s2 us ws I2.kIn (by rw [← r.length]; exact l1) (by rw [← rz.length]; exact l2)
  refine wpAny_call (codeAny_mono (F.run X.A X.stack s2 H2 ⟨us, ks.zip ws⟩ (us ++ ws) (vs ++ zs) Q (WE C.W σ) hG hr I2.env0 bt (r.append rz) q2) fun res s' q => ?_)
  match res, q with
  | .error e, q => exact passAt tk σ pins H2 s2 e s' I2 q
  | .ok (.ret u), q => exact I2.after q
/-- -a of a whole number -/
def negD : PyData → M PyData
  | .int i => M.ret (.int (-i))
  | _ => M.bad
theorem d_neg {ma : M PyData} (ha : PE X a (tD C ma)) : PE X (.UnaryOp .USub a pos) (tD C (ma.bind negD)) :=
  (pe_un un_neg ha).imp fun σ H Q ⟨F, ρ, sr, p⟩ => ⟨F, ρ, sr, p.part fun d ρ1 F1 H1 x e1 q1 g1 s1 r1 => by
    have q1 := q1.on stb_D g1
    cases r1 with
    | int i => exact ⟨i, rfl, q1 F1 H1 _ Grow.refl s1 (.int _)⟩
    | _ => exact q1.elim⟩
end
theorem v_app2 {ρ : Rho} (ms mk : M (List Arg)) : mApp ms mk ρ = (ms ρ).go fun as => mk.bind fun bs => M.ret (as ++ bs) := rfl
end Eg
namespace Eg
open PySem L2 PySem.W PySem.SeqAt
theorem v_andV {ρ : Rho} (ma mb : M PyData) : mAndV ma mb ρ = (ma ρ).go fun d => (asBool d).bind fun b => if b = true then mb else M.ret (.bool false) := rfl
theorem v_orV {ρ : Rho} (ma mb : M PyData) : mOrV ma mb ρ = (ma ρ).go fun d => (asBool d).bind fun b => if b = true then M.ret (.bool true) else mb := rfl
theorem v_notV {ρ : Rho} (ma : M PyData) : mNotV ma ρ = (ma ρ).go fun d => (asBool d).bind fun b => M.ret (.bool (!b)) := rfl
theorem v_neg (i : Int) : negD (.int i) = M.ret (.int (-i)) := rfl
/-- a comprehension with a test -/
theorem lc_filt {t : Tgt} {mt : M Bool} {me : M PyData} {vs : List Nat} {Inv : Rho → Prop} (b : PyData → Bool) (g : PyData → PyData) : ∀ (xs acc : List PyData) (ρ : Rho), Inv ρ → acc.length + xs.length ≤ sizeLine →
    (∀ x ∈ xs, ∀ ρ, Inv ρ → ∃ ρ1 ρ2, t x (wipeR ρ vs) = some ρ1 ∧ mt ρ1 = .ok (b x) ρ2 ∧ (b x = false → Inv ρ2) ∧ (b x = true → ∃ ρ3, me ρ2 = .ok (g x) ρ3 ∧ Inv ρ3)) → ∃ ρ', Inv ρ' ∧ lcGo t mt me vs xs acc ρ = .ok (acc ++ (xs.filter b).map g) ρ'
  | [], acc, ρ, i, _, _ => ⟨ρ, i, by rw [List.filter_nil, List.map_nil, List.append_nil]; rfl⟩
  | x :: xs, acc, ρ, i, hl, h => by
    obtain ⟨ρ1, ρ2, e1, e2, k1, k2⟩ := h x List.mem_cons_self ρ i
    rw [List.length_cons] at hl
    cases q : b x with
    | false =>
      obtain ⟨ρ', i', e'⟩ := lc_filt b g xs acc ρ2 (k1 q) (by omega) fun y hy => h y (List.mem_cons_of_mem _ hy)
      refine ⟨ρ', i', ?_⟩
      rw [q] at e2
      simp only [lcGo, e1, e2]
      rw [e', List.filter_cons, q]
      rfl
    | true =>
      obtain ⟨ρ3, e3, i3⟩ := k2 q
      obtain ⟨ρ', i', e'⟩ := lc_filt b g xs (acc ++ [g x]) ρ3 i3 (by rw [List.length_append, List.length_singleton]; omega) fun y hy => h y (List.mem_cons_of_mem _ hy)
      refine ⟨ρ', i', ?_⟩
      rw [q] at e2
      simp only [lcGo, e1, e2, e3]
      rw [if_pos (by omega), e', List.filter_cons, q, List.append_assoc]
      rfl
end Eg
namespace Eg
open PySem L2 PySem.W PySem.SeqAt
/-! ## how long a text of data is -/
theorem textFrom_most : ∀ (ts : List Str) (k : Nat) (acc : Str), (textFrom k acc ts).length ≤ acc.length + piled ts
  | [], k, acc => by show acc.length ≤ acc.length + _; omega
  | t :: ts, k, acc => by
    have ih := textFrom_most ts (k + 1) (acc ++ (if k > 0 then ", " else "" : String) ++ t)
    have e : (acc ++ (if k > 0 then ", " else "" : String) ++ t).length ≤ acc.length + 2 + t.length := by
      rw [strLen_append, strLen_append]
      have h0 : (("" : String) : Str).length = 0 := rfl
      have h2 : ((", " : String) : Str).length = 2 := rfl
      split <;> omega
    rw [piled_cons]
    show (textFrom (k + 1) (acc ++ (if k > 0 then ", " else "" : String) ++ t) ts).length ≤ _
    omega
theorem listText_most (ts : List Str) : (listText ts).length ≤ piled ts + 2 := by
  have h := textFrom_most ts 0 "["
  have h1 : (("[" : String) : Str).length = 1 := rfl
  have h2 : (("]" : String) : Str).length = 1 := rfl
  unfold listText
  rw [strLen_append]
  omega
theorem tupleText_most (ts : List Str) : (tupleText ts).length ≤ piled ts + 3 := by
  have h1 : (("(" : String) : Str).length = 1 := rfl
  have h2 : ((",)" : String) : Str).length = 2 := rfl
  have h3 : ((")" : String) : Str).length = 1 := rfl
  have hj : (Str.join ", " ts).length ≤ piled ts := by
    cases ts with
    | nil => exact Nat.zero_le _
    | cons t ts => have := join_length_add (t :: ts) (List.cons_ne_nil _ _); omega
  unfold tupleText
  rw [strLen_append, strLen_append]
  split <;> omega
theorem piled_le (n : Nat) : ∀ {ds : List PyData}, (∀ d ∈ ds, d.shown.length ≤ n) → piled (PyData.shownAll ds) ≤ (n + 2) * ds.length
  | [], _ => by rw [PyData.shownAll]; exact Nat.zero_le _
  | d :: ds, h => by
    have ih := piled_le n (ds := ds) fun x hx => h x (List.mem_cons_of_mem _ hx)
    have h0 := h d List.mem_cons_self
    rw [PyData.shownAll, piled_cons, List.length_cons, Nat.mul_add]
    omega
theorem showable_all : ∀ {ds : List PyData}, (∀ d ∈ ds, d.showable = true) → PyData.showableAll ds = true
  | [], _ => by rw [PyData.showableAll]
  | d :: ds, h => by
    rw [PyData.showableAll, h d List.mem_cons_self, showable_all fun x hx => h x (List.mem_cons_of_mem _ hx)]
    rfl
theorem depth_all (n : Nat) : ∀ {ds : List PyData}, (∀ d ∈ ds, d.depth ≤ n) → PyData.depthAll ds ≤ n
  | [], _ => by rw [PyData.depthAll]; exact Nat.zero_le _
  | d :: ds, h => by
    rw [PyData.depthAll]
    exact Nat.max_le.mpr ⟨h d List.mem_cons_self, depth_all n fun x hx => h x (List.mem_cons_of_mem _ hx)⟩
/-- what can be shown, so long at most -/
def Sh (n k : Nat) (d : PyData) : Prop := d.showable = true ∧ d.shown.length ≤ n ∧ d.depth ≤ k
theorem Sh.str {x : Str} {n : Nat} (h : (reprText x).length ≤ n) : Sh n 0 (.str x) := ⟨by rw [PyData.showable], by rw [PyData.shown]; exact h, by rw [PyData.depth]; exact Nat.le_refl _⟩
theorem Sh.list {n k m : Nat} {ds : List PyData} (h : ∀ d ∈ ds, Sh n k d) (hm : ds.length ≤ m) : Sh ((n + 2) * m + 3) (k + 1) (.list ds) := by
  refine ⟨?_, ?_, ?_⟩
  · rw [PyData.showable]; exact showable_all fun d hd => (h d hd).1
  · rw [PyData.shown]
    have h1 := listText_most (PyData.shownAll ds)
    have h2 := piled_le n fun d hd => (h d hd).2.1
    have h3 := Nat.mul_le_mul_left (n + 2) hm
    omega
  · rw [PyData.depth]
    have := depth_all k fun d hd => (h d hd).2.2
    omega
theorem Sh.tuple {n k m : Nat} {ds : List PyData} (h : ∀ d ∈ ds, Sh n k d) (hm : ds.length ≤ m) : Sh ((n + 2) * m + 3) (k + 1) (.tuple ds) := by
  refine ⟨?_, ?_, ?_⟩
  · rw [PyData.showable]; exact showable_all fun d hd => (h d hd).1
  · rw [PyData.shown]
    have h1 := tupleText_most (PyData.shownAll ds)
    have h2 := piled_le n fun d hd => (h d hd).2.1
    have h3 := Nat.mul_le_mul_left (n + 2) hm
    omega
  · rw [PyData.depth]
    have := depth_all k fun d hd => (h d hd).2.2
    omega
theorem Sh.repr {n k : Nat} {d : PyData} (h : Sh n k d) (hn : n ≤ 16777216) (hk : k ≤ 60) : gRepr [d] = some (.sh (.str d.shown)) := by
  have z := sizeLine_eq
  have hs : small d = true := decide_eq_true (Nat.le_trans h.2.2 hk)
  have hl : d.shown.length ≤ sizeLine := by have := h.2.1; omega
  simp only [gRepr]
  rw [if_pos ⟨h.1, hl, hs⟩]
end Eg
namespace Eg
open PySem L2 PySem.W PySem.SeqAt
section
variable {X : Cx} {C : Ct} {e a b c o tg iter : Expr} {es : List Expr} {pos p p1 p2 apos cpos pos' : Pos} {P : List Nat} {σ σ1 : St} {ρ ρ1 : Rho} {F H F1 H1 : Hp}
/-! ## type(x) is T -/
def tyName : PyData → Option String
  | .none => some "NoneType"
  | .bool _ => some "bool"
  | .int _ => some "int"
  | .str _ => some "str"
  | .list _ => some "list"
  | .tuple _ => some "tuple"
  | _ => Option.none
theorem Vw.tyB {K : Kw} {v : V} {d : PyData} {U : String} (h : Vw K F H v d) (s : Same F H) (e : tyName d = some U) : TyB K H v U := by
  cases d with
  | list ds => cases e; obtain ⟨q, vs, rfl, h1, _⟩ := h; exact .lst (SqL.of h1)
  | none => cases e; cases h; exact .non
  | bool b => cases e; cases h; exact .bl b
  | int b => cases e; cases h; exact .int b
  | str b => cases e; cases h; exact .str b
  | tuple ds =>
    cases e
    have h' : DV K F v (.tuple ds) := h
    cases h' with
    | tup h1 h2 => exact .tup (s.sqT h1)
  | _ => cases e
def gTyIs (T : String) (d : PyData) : Option PyData := (tyName d).map fun U => .bool (decide (U = T))
def gTyNot (T : String) (d : PyData) : Option PyData := (tyName d).map fun U => .bool (!decide (U = T))
theorem b_type : bootBuiltins "type" = some (.type "type") := by decide +kernel
theorem d_tyIs {T : String} {x : Str} {ma : M Arg} (hg : Gl X "type") (hm : X.mg "type" = none) (hg2 : Gl X x) (hm2 : X.mg x = none) (hv : bootBuiltins x = some (.type T)) (ha : PE X a (tA C ma)) (hK : X.KW = C.K := by rfl)
    (hn : x ≠ "__name__" := by decide) (hdb : (x == ("__debug__" : Str)) = false := by decide) (he : starEach [a] X.env = [(false, eval a X.env)] := by rfl) :
    PE X (.Compare (.Call (.Name "type" p1) [a] [] pos') [.Is] [.Name x p2] pos) (tD C (m1 (gTyIs T) ma)) :=
  (pe_cmpR op_isTyB (pe_callTy call_type1 hg hm b_type (pa_cons ha pa_nil (by rw [he]; rfl)) (he := he)) (pe_bltn (v := .ty T) hg2 hm2 hv rfl hn hdb) (nomark _)).imp fun σ H Q ⟨F, ρ, sr, q⟩ =>
    one1 sr q fun x dx d ρ2 F2 H2 s2 r e q => by
      unfold gTyIs at e
      cases e1 : tyName dx with
      | none => rw [e1] at e; cases e
      | some U => rw [e1] at e; cases e; exact ⟨x, U, rfl, (show X.K = C.K.fr from congrArg Kw.fr hK) ▸ r.tyB s2.sub e1, _, _, rfl, rfl, q F2 H2 _ Grow.refl s2 (.bl _)⟩
theorem d_tyNot {T : String} {x : Str} {ma : M Arg} (hg : Gl X "type") (hm : X.mg "type" = none) (hg2 : Gl X x) (hm2 : X.mg x = none) (hv : bootBuiltins x = some (.type T)) (ha : PE X a (tA C ma)) (hK : X.KW = C.K := by rfl)
    (hn : x ≠ "__name__" := by decide) (hdb : (x == ("__debug__" : Str)) = false := by decide) (he : starEach [a] X.env = [(false, eval a X.env)] := by rfl) :
    PE X (.Compare (.Call (.Name "type" p1) [a] [] pos') [.IsNot] [.Name x p2] pos) (tD C (m1 (gTyNot T) ma)) :=
  (pe_cmpR op_notTyB (pe_callTy call_type1 hg hm b_type (pa_cons ha pa_nil (by rw [he]; rfl)) (he := he)) (pe_bltn (v := .ty T) hg2 hm2 hv rfl hn hdb) (nomark _)).imp fun σ H Q ⟨F, ρ, sr, q⟩ =>
    one1 sr q fun x dx d ρ2 F2 H2 s2 r e q => by
      unfold gTyNot at e
      cases e1 : tyName dx with
      | none => rw [e1] at e; cases e
      | some U => rw [e1] at e; cases e; exact ⟨x, U, rfl, (show X.K = C.K.fr from congrArg Kw.fr hK) ▸ r.tyB s2.sub e1, _, _, rfl, rfl, q F2 H2 _ Grow.refl s2 (.bl _)⟩
/-- as a test -/
theorem one1T {ma : M Arg} {g : PyData → Option PyData} {σ : St} {ρ : Rho} {F H : Hp} {Q : Bool → Hp → Prop} {R : V → Hp → Prop} (sr : SR C.K F H σ ρ) (p : PostE (β := Bool) C (fun _ _ _ _ _ _ v d => v = d) σ ρ F H Q (((m1 g ma).bind asBool) ρ))
    (k : ∀ x dx d ρ2 F2 H2, SR C.K F2 H2 σ ρ2 → Vw C.K F2 H2 x dx → g dx = some d → PostE C (rD C.K) σ ρ2 F2 H2 (fun x H' => ∃ k, x = V.bl k ∧ Q k H') (.ok d ρ2) → R x H2) : tA C ma σ H R := by
  have p' : PostE C (rD C.K) σ ρ F H (fun x H' => ∃ k, x = V.bl k ∧ Q k H') (m1 g ma ρ) := p.part fun d ρ1 F1 H1 x e1 q1 g1 s1 r1 => asBool_post (β := Bool) (ρ0 := ρ) s1 r1 (q1.on stb_T g1)
  exact one1 sr p' k
theorem t_tyIs {T : String} {x : Str} {ma : M Arg} (hg : Gl X "type") (hm : X.mg "type" = none) (hg2 : Gl X x) (hm2 : X.mg x = none) (hv : bootBuiltins x = some (.type T)) (ha : PE X a (tA C ma)) (hK : X.KW = C.K := by rfl)
    (hn : x ≠ "__name__" := by decide) (hdb : (x == ("__debug__" : Str)) = false := by decide) (he : starEach [a] X.env = [(false, eval a X.env)] := by rfl) :
    PT X (.Compare (.Call (.Name "type" p1) [a] [] pos') [.Is] [.Name x p2] pos) (tT C ((m1 (gTyIs T) ma).bind asBool)) :=
  (pt_cmpR op_isTyB (pe_callTy call_type1 hg hm b_type (pa_cons ha pa_nil (by rw [he]; rfl)) (he := he)) (pe_bltn (v := .ty T) hg2 hm2 hv rfl hn hdb) (nomark _)).imp fun σ H Q ⟨F, ρ, sr, q⟩ =>
    one1T sr q fun x dx d ρ2 F2 H2 s2 r e q => by
      unfold gTyIs at e
      cases e1 : tyName dx with
      | none => rw [e1] at e; cases e
      | some U => rw [e1] at e; cases e; exact ⟨x, U, rfl, (show X.K = C.K.fr from congrArg Kw.fr hK) ▸ r.tyB s2.sub e1, _, _, rfl, rfl, q F2 H2 _ Grow.refl s2 (.bl _)⟩
theorem t_tyNot {T : String} {x : Str} {ma : M Arg} (hg : Gl X "type") (hm : X.mg "type" = none) (hg2 : Gl X x) (hm2 : X.mg x = none) (hv : bootBuiltins x = some (.type T)) (ha : PE X a (tA C ma)) (hK : X.KW = C.K := by rfl)
    (hn : x ≠ "__name__" := by decide) (hdb : (x == ("__debug__" : Str)) = false := by decide) (he : starEach [a] X.env = [(false, eval a X.env)] := by rfl) :
    PT X (.Compare (.Call (.Name "type" p1) [a] [] pos') [.IsNot] [.Name x p2] pos) (tT C ((m1 (gTyNot T) ma).bind asBool)) :=
  (pt_cmpR op_notTyB (pe_callTy call_type1 hg hm b_type (pa_cons ha pa_nil (by rw [he]; rfl)) (he := he)) (pe_bltn (v := .ty T) hg2 hm2 hv rfl hn hdb) (nomark _)).imp fun σ H Q ⟨F, ρ, sr, q⟩ =>
    one1T sr q fun x dx d ρ2 F2 H2 s2 r e q => by
      unfold gTyNot at e
      cases e1 : tyName dx with
      | none => rw [e1] at e; cases e
      | some U => rw [e1] at e; cases e; exact ⟨x, U, rfl, (show X.K = C.K.fr from congrArg Kw.fr hK) ▸ r.tyB s2.sub e1, _, _, rfl, rfl, q F2 H2 _ Grow.refl s2 (.bl _)⟩
/-! ## is True -/
def gIsB (k : Bool) : PyData → Option PyData
  | .bool b => some (.bool (decide (b = k)))
  | _ => none
def gNotB (k : Bool) : PyData → Option PyData
  | .bool b => some (.bool (!decide (b = k)))
  | _ => none
theorem d_isB {k : Bool} {j} {ma : M Arg} (ha : PE X a (tA C ma)) : PE X (.Compare a [.Is] [.Constant (.bool k) j pos'] pos) (tD C (m1 (gIsB k) ma)) :=
  (pe_cmpR op_isBl ha pe_bl (nomark _)).imp fun σ H Q ⟨F, ρ, sr, q⟩ => one1 sr q fun x dx d ρ2 F2 H2 s2 r e q => by
    cases dx <;> cases e
    cases r
    exact ⟨_, _, rfl, rfl, q F2 H2 _ Grow.refl s2 (.bl _)⟩
theorem d_notB {k : Bool} {j} {ma : M Arg} (ha : PE X a (tA C ma)) : PE X (.Compare a [.IsNot] [.Constant (.bool k) j pos'] pos) (tD C (m1 (gNotB k) ma)) :=
  (pe_cmpR op_notBl ha pe_bl (nomark _)).imp fun σ H Q ⟨F, ρ, sr, q⟩ => one1 sr q fun x dx d ρ2 F2 H2 s2 r e q => by
    cases dx <;> cases e
    cases r
    exact ⟨_, _, rfl, rfl, q F2 H2 _ Grow.refl s2 (.bl _)⟩
theorem t_isB {k : Bool} {j} {ma : M Arg} (ha : PE X a (tA C ma)) : PT X (.Compare a [.Is] [.Constant (.bool k) j pos'] pos) (tT C ((m1 (gIsB k) ma).bind asBool)) :=
  (pt_cmpR op_isBl ha pe_bl (nomark _)).imp fun σ H Q ⟨F, ρ, sr, q⟩ => one1T sr q fun x dx d ρ2 F2 H2 s2 r e q => by
    cases dx <;> cases e
    cases r
    exact ⟨_, _, rfl, rfl, q F2 H2 _ Grow.refl s2 (.bl _)⟩
theorem t_notB {k : Bool} {j} {ma : M Arg} (ha : PE X a (tA C ma)) : PT X (.Compare a [.IsNot] [.Constant (.bool k) j pos'] pos) (tT C ((m1 (gNotB k) ma).bind asBool)) :=
  (pt_cmpR op_notBl ha pe_bl (nomark _)).imp fun σ H Q ⟨F, ρ, sr, q⟩ => one1T sr q fun x dx d ρ2 F2 H2 s2 r e q => by
    cases dx <;> cases e
    cases r
    exact ⟨_, _, rfl, rfl, q F2 H2 _ Grow.refl s2 (.bl _)⟩
/-! ## all, any of a list of truths -/
def boolsOf : List PyData → Option (List Bool)
  | [] => some []
  | .bool b :: ds => (boolsOf ds).map (b :: ·)
  | _ => none
theorem bools_at {K : Kw} {H : Hp} : ∀ {vs : List V} {ds : List PyData} {bs : List Bool}, DVs K H vs ds → boolsOf ds = some bs → vs = bs.map V.bl
  | _, _, bs, .nil, e => by cases e; rfl
  | _, _, bs, .cons (d := d) h t, e => by
    cases d with
    | bool b =>
      cases h
      simp only [boolsOf] at e
      rename_i ds
      cases q : boolsOf ds with
      | none => rw [q] at e; cases e
      | some cs => rw [q] at e; cases e; rw [bools_at t q]; rfl
    | _ => simp [boolsOf] at e
def gAll : List PyData → Option OD
  | [.list ds] => (boolsOf ds).map fun bs => .sh (.bool (bs.all id))
  | _ => none
def gAny : List PyData → Option OD
  | [.list ds] => (boolsOf ds).map fun bs => .sh (.bool (bs.any id))
  | _ => none
theorem co_all (hc : X.calm = true) : CallO X (.builtin "all") gAll := callO_of (cr_all hc) fun F H xs ds o Q sub vw e q => by
  match ds, vw, e with
  | [.list ds], .cons h .nil, e =>
    simp only [gAll] at e
    cases q1 : boolsOf ds with
    | none => rw [q1] at e; cases e
    | some bs =>
      rw [q1] at e; cases e
      obtain ⟨p, vs, rfl, h1, h2⟩ := h
      have := bools_at h2 q1
      subst this
      exact ⟨p, bs, rfl, SqL.of h1, q _ _ _ (.asis (.bl _))⟩
theorem co_any (hc : X.calm = true) : CallO X (.builtin "any") gAny := callO_of (cr_any hc) fun F H xs ds o Q sub vw e q => by
  match ds, vw, e with
  | [.list ds], .cons h .nil, e =>
    simp only [gAny] at e
    cases q1 : boolsOf ds with
    | none => rw [q1] at e; cases e
    | some bs =>
      rw [q1] at e; cases e
      obtain ⟨p, vs, rfl, h1, h2⟩ := h
      have := bools_at h2 q1
      subst this
      exact ⟨p, bs, rfl, SqL.of h1, q _ _ _ (.asis (.bl _))⟩
theorem b_all : bootBuiltins "all" = some (.builtin "all") := by decide +kernel
theorem b_any : bootBuiltins "any" = some (.builtin "any") := by decide +kernel
/-! ## a op b op c -/
def mOp2 (g : PyData → PyData → Option PyData) (x y : PyData) : M PyData := M.lift (g x y)
def mChain (g g' : PyData → PyData → Option PyData) (ma mb mc : M PyData) : M PyData := ma.bind fun x => mb.bind fun y => (mOp2 g x y).bind fun d => (asBool d).bind fun k => if k = true then mc.bind fun z => mOp2 g' y z else M.ret (.bool false)
theorem chain_read {g g' : PyData → PyData → Option PyData} {ma mb mc : M PyData} {σ : St} {H : Hp} {Q : VK} (hK : X.KW = C.K) : tD C (mChain g g' ma mb mc) σ H Q → tChain (rOp X.KW g) (rOp X.KW g') (tD C ma) (tD C mb) (tD C mc) σ H Q := by
  intro ⟨F, ρ, sr, q⟩
  rw [hK]
  refine ⟨F, ρ, sr, q.part fun x ρ1 F1 H1 vx e1 q1 g1 s1 r1 => ?_⟩
  have q1 := q1.on stb_D g1
  refine ⟨F1, ρ1, s1, q1.part fun y ρ2 F2 H2 vy e2 q2 g2 s2 r2 => ?_⟩
  have q2 := q2.on stb_D g2
  unfold mOp2 at q2
  unfold M.bind at q2
  cases eg : g x y with
  | none => rw [eg] at q2; exact q2.elim
  | some d =>
    rw [eg] at q2
    refine ⟨x, y, d, DV.mono (g2.ext.trans s2.sub) r1, DV.mono s2.sub r2, eg, fun w hw => ?_⟩
    have q2 : PostE C (rD C.K) σ ρ2 F2 H2 Q (((asBool d).bind fun k => if k = true then mc.bind fun z => mOp2 g' y z else M.ret (.bool false)) ρ2) := q2
    cases d with
    | bool k =>
      cases hw
      refine ⟨k, rfl, ?_⟩
      cases k with
      | false => exact q2 F2 H2 _ Grow.refl s2 (.bl _)
      | true =>
        refine ⟨F2, ρ2, s2, PostE.part (show PostE C (rD C.K) σ ρ2 F2 H2 Q ((mc.bind fun z => mOp2 g' y z) ρ2) from q2) fun z ρ3 F3 H3 vz e3 q3 g3 s3 r3 => ?_⟩
        have q3 := q3.on stb_D g3
        unfold mOp2 at q3
        cases eg' : g' y z with
        | none => rw [eg'] at q3; exact q3.elim
        | some d' =>
          rw [eg'] at q3
          exact ⟨y, z, d', DV.mono (g3.ext.trans s3.sub) r2, DV.mono s3.sub r3, eg', fun w hw => q3 F3 H3 w Grow.refl s3 (atom_dv hw)⟩
    | _ => exact q2.elim
theorem d_chain {op op' : CmpOp} {g g' : PyData → PyData → Option PyData} {ma mb mc : M PyData} (ho : OpD X (compareOp op) g) (ho' : OpD X (compareOp op') g') (ha : PE X a (tD C ma)) (hb : PE X b (tD C mb)) (hc : PE X c (tD C mc)) (hK : X.KW = C.K := by rfl)
    (hm : lastMarks [op, op'] [b, c] = false := by with_unfolding_all rfl) : PE X (.Compare a [op, op'] [b, c] pos) (tD C (mChain g g' ma mb mc)) :=
  (pe_chain (opR_of ho) (opR_of ho') ha hb hc hm).imp fun σ H Q q => chain_read hK q
theorem t_chain {op op' : CmpOp} {g g' : PyData → PyData → Option PyData} {ma mb mc : M PyData} (ho : OpD X (compareOp op) g) (ho' : OpD X (compareOp op') g') (ha : PE X a (tD C ma)) (hb : PE X b (tD C mb)) (hc : PE X c (tD C mc)) (hK : X.KW = C.K := by rfl)
    (hm : lastMarks [op, op'] [b, c] = false := by with_unfolding_all rfl) : PT X (.Compare a [op, op'] [b, c] pos) (tT C ((mChain g g' ma mb mc).bind asBool)) :=
  (pt_chain (opR_of ho) (opR_of ho') ha hb hc hm).imp fun σ H Q ⟨F, ρ, sr, q⟩ => chain_read hK ⟨F, ρ, sr, q.part fun d ρ1 F1 H1 x e1 q1 g1 s1 r1 => asBool_post (β := Bool) (ρ0 := ρ) s1 r1 (q1.on stb_T g1)⟩
/-! ## a text, walked -/
def strItems (x : Str) : List PyData := x.cps.toList.map fun c => .str ⟨#[c]⟩
def txtItems : PyData → M (List PyData)
  | .str x => M.ret (strItems x)
  | _ => M.bad
theorem walk_txt {K : Kw} {x : Str} : WalkD K F (Its x) (strItems x) := fun F2 H2 i s1 s2 => by
  unfold strItems
  refine ⟨fun hl => (show x.cps.size ≤ i by simpa using hl), fun d hd => ?_⟩
  rw [List.getElem?_map] at hd
  cases q : x.cps.toList[i]? with
  | none => rw [q] at hd; cases hd
  | some c =>
    rw [q] at hd; cases hd
    have hi : i < x.cps.size := by have := (List.getElem?_eq_some_iff.mp q).1; simpa using this
    refine ⟨hi, fun w H3 y => ?_⟩
    obtain ⟨e1, c', e2, e3⟩ := y
    subst e1 e3
    have : x.cps.toList[i]? = some c' := by simpa using e2
    rw [q] at this; cases this
    exact ⟨F2, .asis (.str _)⟩
theorem i_txt {m : M PyData} (h : PE X iter (tD C m)) : PI X tg iter (tI C (m.bind txtItems)) :=
  (pi_str h).imp fun σ H R ⟨F, ρ, sr, p⟩ => ⟨F, ρ, sr, p.part fun d ρ1 F1 H1 x e1 q1 g1 s1 r1 => by
    have q1 := q1.on stb_I g1
    cases r1 with
    | str z => exact ⟨z, rfl, q1 F1 H1 _ Grow.refl s1 walk_txt⟩
    | _ => exact q1.elim⟩
/-! ## zip -/
def zipD : PyData → PyData → Option (List PyData)
  | .list xs, .list ys => some (List.zipWith (fun x y => .tuple [x, y]) xs ys)
  | .tuple xs, .tuple ys => some (List.zipWith (fun x y => .tuple [x, y]) xs ys)
  | _, _ => none
theorem walk_zipL {K : Kw} {a b : Addr} {vs ws : List V} {ds es : List PyData} (h : F a = some (.lst vs)) (hd : DVs K F vs ds) (h' : F b = some (.lst ws)) (hd' : DVs K F ws es) : WalkD K F (Itz K a b) (List.zipWith (fun x y => .tuple [x, y]) ds es) := fun F2 H2 i s1 s2 => by
  have h2 : SqL K H2 a vs := SqL.of (s2 _ _ (s1 _ _ h))
  have h2' : SqL K H2 b ws := SqL.of (s2 _ _ (s1 _ _ h'))
  refine ⟨fun hl => ⟨vs, ws, h2, h2', by rw [hd.len, hd'.len]; rw [List.length_zipWith] at hl; omega⟩, fun x hx => ?_⟩
  rw [List.getElem?_zipWith] at hx
  cases q1 : ds[i]? with
  | none => rw [q1] at hx; cases hx
  | some x1 =>
    cases q2 : es[i]? with
    | none => rw [q1, q2] at hx; cases hx
    | some x2 =>
      rw [q1, q2] at hx; cases hx
      obtain ⟨v, ev, dv⟩ := hd.get q1
      obtain ⟨v', ev', dv'⟩ := hd'.get q2
      refine ⟨⟨vs, ws, v, v', h2, h2', ev, ev'⟩, fun w H3 ⟨T, x, y, e1, hT, e3, y1, y2⟩ => ?_⟩
      subst e1 e3
      have e4 := y1 vs h2
      rw [ev] at e4; cases e4
      have e5 := y2 ws h2'
      rw [ev'] at e5; cases e5
      exact ⟨_, .tup hT (.cons (DV.mono s1 dv) (.cons (DV.mono s1 dv') .nil))⟩
theorem walk_zipT {K : Kw} {a b : Addr} {vs ws : List V} {ds es : List PyData} (h : SqT K F a vs) (hd : DVs K F vs ds) (h' : SqT K F b ws) (hd' : DVs K F ws es) : WalkD K F (RZ.ItzT K a b) (List.zipWith (fun x y => .tuple [x, y]) ds es) := fun F2 H2 i s1 s2 => by
  have h2 : SqT K H2 a vs := s2.sqT (s1.sqT h)
  have h2' : SqT K H2 b ws := s2.sqT (s1.sqT h')
  refine ⟨fun hl => ⟨vs, ws, h2, h2', by rw [hd.len, hd'.len]; rw [List.length_zipWith] at hl; omega⟩, fun x hx => ?_⟩
  rw [List.getElem?_zipWith] at hx
  cases q1 : ds[i]? with
  | none => rw [q1] at hx; cases hx
  | some x1 =>
    cases q2 : es[i]? with
    | none => rw [q1, q2] at hx; cases hx
    | some x2 =>
      rw [q1, q2] at hx; cases hx
      obtain ⟨v, ev, dv⟩ := hd.get q1
      obtain ⟨v', ev', dv'⟩ := hd'.get q2
      refine ⟨⟨vs, ws, v, v', h2, h2', ev, ev'⟩, fun w H3 ⟨T, x, y, e1, hT, e3, y1, y2⟩ => ?_⟩
      subst e1 e3
      have e4 := y1 vs h2
      rw [ev] at e4; cases e4
      have e5 := y2 ws h2'
      rw [ev'] at e5; cases e5
      exact ⟨_, .tup hT (.cons (DV.mono s1 dv) (.cons (DV.mono s1 dv') .nil))⟩
theorem i_zip {elts : List Expr} {kk : Nat} {tpos : Pos} {ma mb : M PyData} (hg : Gl X "zip") (hm : X.mg "zip" = none) (ha : PE X a (tD C ma)) (hb : PE X b (tD C mb)) (hK : X.KW = C.K := by rfl)
    (hs : starEach [a, b] X.env = (false, eval a X.env) :: starEach [b] X.env := by rfl) (hs2 : starEach [b] X.env = [(false, eval b X.env)] := by rfl) :
    PI X (.Tuple elts kk tpos) (.Call (.Name "zip" p) [a, b] [] pos) (tI C (ma.bind fun x => mb.bind fun y => M.lift (zipD x y))) :=
  (RZ.pi_zipA hg hm (pa_cons ha (pa_cons hb pa_nil (by rw [hs2]; rfl)) (by rw [hs])) hs (by rw [hs2]; rfl)).imp fun σ H R ⟨F, ρ, sr, q⟩ => ⟨F, ρ, sr, q.part fun x ρ1 F1 H1 vx e1 q1 g1 s1 r1 => by
    have q1 := q1.on stb_I g1
    refine ⟨F1, ρ1, s1, q1.part fun y ρ2 F2 H2 vy e2 q2 g2 s2 r2 => ?_⟩
    have q2 := q2.on stb_I g2
    have r1 := DV.mono g2.ext r1
    rw [show X.K = C.K.fr from congrArg Kw.fr hK]
    cases r1 with
    | @lst a vs ds h1 h2 =>
      cases r2 with
      | @lst b ws es h1' h2' => exact ⟨a, b, vs, ws, rfl, .inl ⟨SqL.of (s2.sub _ _ h1), SqL.of (s2.sub _ _ h1'), q2 F2 H2 _ Grow.refl s2 (walk_zipL h1 h2 h1' h2')⟩⟩
      | _ => exact q2.elim
    | @tup a vs ds h1 h2 =>
      cases r2 with
      | @tup b ws es h1' h2' => exact ⟨a, b, vs, ws, rfl, .inr ⟨s2.sub.sqT h1, s2.sub.sqT h1', q2 F2 H2 _ Grow.refl s2 (walk_zipT h1 h2 h1' h2')⟩⟩
      | _ => exact q2.elim
    | _ => cases r2 <;> exact q2.elim⟩
end
/-! ## computing -/
section
variable {ρ : Rho}
theorem v_chain (g g' : PyData → PyData → Option PyData) (ma mb mc : M PyData) : mChain g g' ma mb mc ρ = (ma ρ).go fun x => mb.bind fun y => (mOp2 g x y).bind fun d => (asBool d).bind fun k => if k = true then mc.bind fun z => mOp2 g' y z else M.ret (.bool false) := rfl
theorem v_op2 (g : PyData → PyData → Option PyData) (x y : PyData) : mOp2 g x y ρ = Res.opt (g x y) ρ := v_lift _
theorem v_txt (x : Str) : txtItems (.str x) = M.ret (strItems x) := rfl
theorem v_tiI (T : String) (i : Int) : gTyIs T (.int i) = some (.bool (decide ("int" = T))) := rfl
theorem v_tiB (T : String) (i : Bool) : gTyIs T (.bool i) = some (.bool (decide ("bool" = T))) := rfl
theorem v_tiS (T : String) (i : Str) : gTyIs T (.str i) = some (.bool (decide ("str" = T))) := rfl
theorem v_tiL (T : String) (i : List PyData) : gTyIs T (.list i) = some (.bool (decide ("list" = T))) := rfl
theorem v_tiT (T : String) (i : List PyData) : gTyIs T (.tuple i) = some (.bool (decide ("tuple" = T))) := rfl
theorem v_tiN (T : String) : gTyIs T .none = some (.bool (decide ("NoneType" = T))) := rfl
theorem v_tnI (T : String) (i : Int) : gTyNot T (.int i) = some (.bool (!decide ("int" = T))) := rfl
theorem v_tnB (T : String) (i : Bool) : gTyNot T (.bool i) = some (.bool (!decide ("bool" = T))) := rfl
theorem v_tnS (T : String) (i : Str) : gTyNot T (.str i) = some (.bool (!decide ("str" = T))) := rfl
theorem v_tnL (T : String) (i : List PyData) : gTyNot T (.list i) = some (.bool (!decide ("list" = T))) := rfl
theorem v_tnT (T : String) (i : List PyData) : gTyNot T (.tuple i) = some (.bool (!decide ("tuple" = T))) := rfl
theorem v_tnN (T : String) : gTyNot T .none = some (.bool (!decide ("NoneType" = T))) := rfl
theorem v_isB (k b : Bool) : gIsB k (.bool b) = some (.bool (decide (b = k))) := rfl
theorem v_notB (k b : Bool) : gNotB k (.bool b) = some (.bool (!decide (b = k))) := rfl
end
end Eg
namespace Eg
open PySem L2 PySem.W PySem.SeqAt
section
variable {X : Cx} {C : Ct} {e a b c o tg iter : Expr} {es : List Expr} {pos p p1 p2 apos cpos pos' : Pos} {P : List Nat} {σ σ1 : St} {ρ ρ1 : Rho} {F H F1 H1 : Hp}
/-! ## truth of any thing -/
def truOf : PyData → Option Bool
  | .none => some false
  | .bool b => some b
  | .int i => some (i != 0)
  | .str x => if x.length ≤ sizeLine then some ((x.length : Int) != 0) else Option.none
  | .list ds => some (!ds.isEmpty)
  | .tuple ds => some (!ds.isEmpty)
  | _ => Option.none
def truD (d : PyData) : M Bool := M.lift (truOf d)
theorem DV.tru {K : Kw} {v : V} {d : PyData} {k : Bool} (h : DV K F v d) (s : Same F H) (e : truOf d = some k) : TruV K v H k := by
  cases h with
  | non => cases e; rfl
  | bl b => cases e; rfl
  | int i => cases e; rfl
  | str x =>
    simp only [truOf] at e
    split at e <;> cases e
    exact ⟨by assumption, rfl⟩
  | lst h1 h2 => cases e; exact .inl ⟨_, SqL.of (s _ _ h1), by cases h2 <;> rfl⟩
  | tup h1 h2 => cases e; exact .inr (.inl ⟨_, s.sqT h1, by cases h2 <;> rfl⟩)
theorem t_tru {m : M PyData} (h : PE X e (tD C m)) (hK : X.KW = C.K := by rfl) (he : ∀ whole, isTrue e X.env whole = (do let v ← whole; standAt e.pos; holding [v] (truthy v)) := by intro _; rfl) : PT X e (tT C (m.bind truD)) :=
  (pt_truth h he).imp fun σ H Q ⟨F, ρ, sr, p⟩ => ⟨F, ρ, sr, p.part fun d ρ1 F1 H1 x e1 q1 g1 s1 r1 => by
    have q1 := q1.on stb_T g1
    unfold truD at q1
    cases ek : truOf d with
    | none => rw [ek] at q1; exact q1.elim
    | some k => rw [ek] at q1; rw [show X.K = C.K.fr from congrArg Kw.fr hK]; exact ⟨k, DV.tru r1 s1.sub ek, q1 F1 H1 k Grow.refl s1 rfl⟩⟩
end
section
variable {ρ : Rho}
theorem v_truB (b : Bool) : truD (.bool b) = M.ret b := rfl
theorem v_truI (i : Int) : truD (.int i) = M.ret (i != 0) := rfl
theorem v_truL (ds : List PyData) : truD (.list ds) = M.ret (!ds.isEmpty) := rfl
theorem v_truT (ds : List PyData) : truD (.tuple ds) = M.ret (!ds.isEmpty) := rfl
theorem v_truN : truD .none = M.ret false := rfl
end
end Eg
namespace Eg
open PySem L2 PySem.W PySem.SeqAt
/-! ## comprehensions that leave the state as it was -/
theorem restR_at {ρ0 ρ : Rho} {j : Nat} (hl : ρ.length = ρ0.length) : ∀ {vs : List Nat}, j ∈ vs → (restR ρ0 ρ vs)[j]? = ρ0[j]?
  | v :: vs, h => by
    rw [v_rs1]
    by_cases e : v = j
    · subst e
      by_cases q : v < ρ0.length
      · rw [List.getElem?_set_self (by rw [restR_len, hl]; exact q), List.getElem?_eq_getElem q]; rfl
      · rw [List.getElem?_eq_none (by rw [List.length_set, restR_len, hl]; omega), List.getElem?_eq_none (by omega)]
    · rw [List.getElem?_set_ne e]
      rcases List.mem_cons.mp h with z | z
      · exact absurd z.symm e
      · exact restR_at hl z
theorem restR_self {ρ0 ρ : Rho} {vs : List Nat} (h : wipeR ρ vs = wipeR ρ0 vs) : restR ρ0 ρ vs = ρ0 := by
  have hl : ρ.length = ρ0.length := by rw [← wipeR_len ρ vs, h, wipeR_len]
  refine List.ext_getElem? fun j => ?_
  by_cases q : j ∈ vs
  · exact restR_at hl q
  · rw [restR_out q, ← wipeR_out (ρ := ρ) q, h, wipeR_out q]
section
variable {α : Type} {src : M (List PyData)} {t : Tgt} {mt : M Bool} {me : M PyData} {vs : List Nat} {ρ ρ0 : Rho}
theorem lc_mapT {Inv : Rho → Prop} (f g : α → PyData) : ∀ (xs : List α) (acc : List PyData) (ρ : Rho), Inv ρ → acc.length + xs.length ≤ sizeLine →
    (∀ x ∈ xs, ∀ ρ, Inv ρ → ∃ ρ1 ρ2, t (f x) (wipeR ρ vs) = some ρ1 ∧ me ρ1 = .ok (g x) ρ2 ∧ Inv ρ2) → ∃ ρ', Inv ρ' ∧ lcGo t (M.ret true) me vs (xs.map f) acc ρ = .ok (acc ++ xs.map g) ρ'
  | [], acc, ρ, i, _, _ => ⟨ρ, i, by rw [List.map_nil, List.map_nil, List.append_nil]; rfl⟩
  | x :: xs, acc, ρ, i, hl, h => by
    obtain ⟨ρ1, ρ2, e1, e2, i2⟩ := h x List.mem_cons_self ρ i
    rw [List.length_cons] at hl
    obtain ⟨ρ', i', e'⟩ := lc_mapT f g xs (acc ++ [g x]) ρ2 i2 (by rw [List.length_append, List.length_singleton]; omega) fun y hy => h y (List.mem_cons_of_mem _ hy)
    refine ⟨ρ', i', ?_⟩
    rw [List.map_cons]
    simp only [lcGo, e1, M.ret, e2]
    rw [if_pos (by omega), e', List.map_cons, List.append_assoc]
    rfl
theorem lc_filtT {Inv : Rho → Prop} (f : α → PyData) (b : α → Bool) (g : α → PyData) : ∀ (xs : List α) (acc : List PyData) (ρ : Rho), Inv ρ → acc.length + xs.length ≤ sizeLine →
    (∀ x ∈ xs, ∀ ρ, Inv ρ → ∃ ρ1 ρ2, t (f x) (wipeR ρ vs) = some ρ1 ∧ mt ρ1 = .ok (b x) ρ2 ∧ (b x = false → Inv ρ2) ∧ (b x = true → ∃ ρ3, me ρ2 = .ok (g x) ρ3 ∧ Inv ρ3)) → ∃ ρ', Inv ρ' ∧ lcGo t mt me vs (xs.map f) acc ρ = .ok (acc ++ (xs.filter b).map g) ρ'
  | [], acc, ρ, i, _, _ => ⟨ρ, i, by rw [List.filter_nil, List.map_nil, List.map_nil, List.append_nil]; rfl⟩
  | x :: xs, acc, ρ, i, hl, h => by
    obtain ⟨ρ1, ρ2, e1, e2, k1, k2⟩ := h x List.mem_cons_self ρ i
    rw [List.length_cons] at hl
    rw [List.map_cons]
    cases q : b x with
    | false =>
      obtain ⟨ρ', i', e'⟩ := lc_filtT f b g xs acc ρ2 (k1 q) (by omega) fun y hy => h y (List.mem_cons_of_mem _ hy)
      refine ⟨ρ', i', ?_⟩
      rw [q] at e2
      simp only [lcGo, e1, e2]
      rw [e', List.filter_cons, q]
      rfl
    | true =>
      obtain ⟨ρ3, e3, i3⟩ := k2 q
      obtain ⟨ρ', i', e'⟩ := lc_filtT f b g xs (acc ++ [g x]) ρ3 i3 (by rw [List.length_append, List.length_singleton]; omega) fun y hy => h y (List.mem_cons_of_mem _ hy)
      refine ⟨ρ', i', ?_⟩
      rw [q] at e2
      simp only [lcGo, e1, e2, e3]
      rw [if_pos (by omega), e', List.filter_cons, q, List.append_assoc]
      rfl
/-- a comprehension of a typed list; an item's reading leaves all but the block's names -/
theorem comp_pure {l : List α} {f : α → PyData} (g : α → PyData) (hs : src ρ = .ok (l.map f) ρ0) (hl : l.length ≤ sizeLine)
    (step : ∀ x ∈ l, ∃ ρ1 ρ2, t (f x) (wipeR ρ0 vs) = some ρ1 ∧ me ρ1 = .ok (g x) ρ2 ∧ wipeR ρ2 vs = wipeR ρ0 vs) : mComp src t (M.ret true) me vs ρ = .ok (.ol (l.map g)) ρ0 := by
  obtain ⟨ρ', i, e⟩ := lc_mapT (Inv := fun r => wipeR r vs = wipeR ρ0 vs) f g l [] ρ0 rfl (by rw [List.length_nil]; omega) fun x hx r hr => by
    obtain ⟨ρ1, ρ2, e1, e2, e3⟩ := step x hx
    exact ⟨ρ1, ρ2, by rw [hr]; exact e1, e2, e3⟩
  rw [v_comp, hs, v_go, e, v_cpk _ _ _ (by rw [← wipeR_len ρ' vs, i, wipeR_len]), restR_self i, List.nil_append]
theorem comp_filt {l : List α} {f : α → PyData} (b : α → Bool) (g : α → PyData) (hs : src ρ = .ok (l.map f) ρ0) (hl : l.length ≤ sizeLine)
    (step : ∀ x ∈ l, ∃ ρ1 ρ2, t (f x) (wipeR ρ0 vs) = some ρ1 ∧ mt ρ1 = .ok (b x) ρ2 ∧ wipeR ρ2 vs = wipeR ρ0 vs ∧ (b x = true → ∃ ρ3, me ρ2 = .ok (g x) ρ3 ∧ wipeR ρ3 vs = wipeR ρ0 vs)) : mComp src t mt me vs ρ = .ok (.ol ((l.filter b).map g)) ρ0 := by
  obtain ⟨ρ', i, e⟩ := lc_filtT (Inv := fun r => wipeR r vs = wipeR ρ0 vs) f b g l [] ρ0 rfl (by rw [List.length_nil]; omega) fun x hx r hr => by
    obtain ⟨ρ1, ρ2, e1, e2, e3, e4⟩ := step x hx
    exact ⟨ρ1, ρ2, by rw [hr]; exact e1, e2, fun _ => e3, e4⟩
  rw [v_comp, hs, v_go, e, v_cpk _ _ _ (by rw [← wipeR_len ρ' vs, i, wipeR_len]), restR_self i, List.nil_append]
/-- a comprehension whose items change the state: by a word of how many are told -/
theorem lc_fold {f : α → PyData} (n : Nat) (Inv : List PyData → Rho → Prop) : ∀ (xs : List α) (acc : List PyData) (ρ : Rho), Inv acc ρ → acc.length + xs.length = n → n ≤ sizeLine →
    (∀ x ∈ xs, ∀ acc ρ, acc.length < n → Inv acc ρ → ∃ d ρ1 ρ2, t (f x) (wipeR ρ vs) = some ρ1 ∧ me ρ1 = .ok d ρ2 ∧ Inv (acc ++ [d]) ρ2) → ∃ ds ρ', ds.length = n ∧ Inv ds ρ' ∧ lcGo t (M.ret true) me vs (xs.map f) acc ρ = .ok ds ρ'
  | [], acc, ρ, i, hn, _, _ => ⟨acc, ρ, by simpa using hn, i, rfl⟩
  | x :: xs, acc, ρ, i, hn, hl, h => by
    rw [List.length_cons] at hn
    obtain ⟨d, ρ1, ρ2, e1, e2, i2⟩ := h x List.mem_cons_self acc ρ (by omega) i
    obtain ⟨ds, ρ', hd, i', e'⟩ := lc_fold n Inv xs (acc ++ [d]) ρ2 i2 (by rw [List.length_append, List.length_singleton]; omega) hl fun y hy => h y (List.mem_cons_of_mem _ hy)
    refine ⟨ds, ρ', hd, i', ?_⟩
    rw [List.map_cons]
    simp only [lcGo, e1, M.ret, e2]
    rw [if_pos (by omega), e']
theorem comp_fold {l : List α} {f : α → PyData} (Inv : List PyData → Rho → Prop) (hs : src ρ = .ok (l.map f) ρ0) (hl : l.length ≤ sizeLine) (h0 : Inv [] ρ0) (hlen : ∀ ds r, Inv ds r → r.length = ρ0.length)
    (step : ∀ x ∈ l, ∀ acc ρ, acc.length < l.length → Inv acc ρ → ∃ d ρ1 ρ2, t (f x) (wipeR ρ vs) = some ρ1 ∧ me ρ1 = .ok d ρ2 ∧ Inv (acc ++ [d]) ρ2) : ∃ ds ρ', ds.length = l.length ∧ Inv ds ρ' ∧ mComp src t (M.ret true) me vs ρ = .ok (.ol ds) (restR ρ0 ρ' vs) := by
  obtain ⟨ds, ρ', hd, i, e⟩ := lc_fold (t := t) (me := me) (vs := vs) (f := f) l.length Inv l [] ρ0 h0 (by rw [List.length_nil]; omega) hl step
  exact ⟨ds, ρ', hd, i, by rw [v_comp, hs, v_go, e, v_cpk _ _ _ (hlen _ _ i)]⟩
/-! ## loops -/
variable {b : M Out}
/-- all turns go on -/
theorem loop_inv {f : α → PyData} (Inv : List α → Rho → Prop) (step : ∀ x rest ρ, Inv (x :: rest) ρ → ∃ ρ1 ρ2, t (f x) ρ = some ρ1 ∧ (b ρ1 = .ok .nx ρ2 ∨ b ρ1 = .ok .ct ρ2) ∧ Inv rest ρ2) : ∀ (l : List α) (ρ : Rho), Inv l ρ → ∃ ρ', sLoop t b (l.map f) ρ = .ok .nx ρ' ∧ Inv [] ρ'
  | [], ρ, i => ⟨ρ, rfl, i⟩
  | x :: l, ρ, i => by
    obtain ⟨ρ1, ρ2, e1, e2, i2⟩ := step x l ρ i
    obtain ⟨ρ', e', i'⟩ := loop_inv Inv step l ρ2 i2
    refine ⟨ρ', ?_, i'⟩
    rw [List.map_cons, v_lp1, e1, v_lpO]
    rcases e2 with e2 | e2 <;> rw [e2] <;> exact e'
/-- with ways out -/
theorem loop_gen {f : α → PyData} (Inv : List α → Rho → Prop) (Done : Res Out → Prop) (fin : ∀ ρ, Inv [] ρ → Done (.ok .nx ρ))
    (step : ∀ x rest ρ, Inv (x :: rest) ρ → ∃ ρ1, t (f x) ρ = some ρ1 ∧ ((∃ ρ2, (b ρ1 = .ok .nx ρ2 ∨ b ρ1 = .ok .ct ρ2) ∧ Inv rest ρ2) ∨ (∃ ρ2, b ρ1 = .ok .bk ρ2 ∧ Done (.ok .nx ρ2)) ∨ (∃ r ρ2, b ρ1 = .ok (.rt r) ρ2 ∧ Done (.ok (.rt r) ρ2)) ∨ (∃ x ρ2, b ρ1 = .ex x ρ2 ∧ Done (.ex x ρ2)))) : ∀ (l : List α) (ρ : Rho), Inv l ρ → Done (sLoop t b (l.map f) ρ)
  | [], ρ, i => fin ρ i
  | x :: l, ρ, i => by
    obtain ⟨ρ1, e1, h⟩ := step x l ρ i
    rw [List.map_cons, v_lp1, e1, v_lpO]
    rcases h with ⟨ρ2, e2, i2⟩ | ⟨ρ2, e2, d⟩ | ⟨r, ρ2, e2, d⟩ | ⟨x, ρ2, e2, d⟩
    · have := loop_gen Inv Done fin step l ρ2 i2
      rcases e2 with e2 | e2 <;> rw [e2] <;> exact this
    · rw [e2]; exact d
    · rw [e2]; exact d
    · rw [e2]; exact d
end
/-! ## data: facts -/
theorem gEq_refl {d : PyData} (h : alike d d = true) (s : small d = true) : gEq d d = some (.bool true) := by
  unfold gEq
  rw [if_pos s, eqv_refl_alike d h]
theorem gNe_refl {d : PyData} (h : alike d d = true) (s : small d = true) : gNe d d = some (.bool false) := by
  unfold gNe
  rw [if_pos s, eqv_refl_alike d h]
  rfl
def smallN (n : Nat) (d : PyData) : Prop := d.depth ≤ n
end Eg
namespace Eg
open PySem L2 PySem.W PySem.SeqAt
/-! ## a, b = a list -/
def tLst (ts : List Tgt) : Tgt := fun d ρ => match d with
  | .list ds => tTup.go ts ds ρ
  | _ => none
theorem tgo_len : ∀ (ts : List Tgt) (ds : List PyData) (ρ ρ' : Rho), tTup.go ts ds ρ = some ρ' → ds.length = ts.length := by
  intro ts
  induction ts with
  | nil => intro ds ρ ρ' h; cases ds with
    | nil => rfl
    | cons _ _ => cases h
  | cons t ts ih => intro ds ρ ρ' h; cases ds with
    | nil => cases h
    | cons d ds =>
      simp only [tTup.go] at h
      cases e1 : t d ρ with
      | none => rw [e1] at h; cases h
      | some ρ1 => rw [e1] at h; rw [List.length_cons, List.length_cons, ih ds ρ1 ρ' h]
theorem g_lst {C : Ct} {P : List Nat} {n k : Nat} {u : TGs} {ts : List Tgt} (h : TgsOk C P n u ts) (hk : ts.length = k := by rfl) : TgOk C P n (gLst C.K k u) (tLst ts) := fun v d σ ρ ρ' F H Q hn sr dv e q => by
  cases dv with
  | @lst a vs ds h1 h2 =>
    refine ⟨a, vs, rfl, SqL.of (sr.sub _ _ h1), ?_, tgs_run h vs ds σ ρ ρ' F H Q hn sr h2 e q⟩
    rw [h2.len, ← hk]
    exact tgo_len ts ds ρ ρ' e
  | _ => cases e
theorem v_tt (ts : List Tgt) (ds : List PyData) (ρ : Rho) : tTup ts (.tuple ds) ρ = tTup.go ts ds ρ := rfl
theorem v_tl (ts : List Tgt) (ds : List PyData) (ρ : Rho) : tLst ts (.list ds) ρ = tTup.go ts ds ρ := rfl
theorem v_go0 (ρ : Rho) : tTup.go [] [] ρ = some ρ := rfl
theorem v_go1 (t : Tgt) (ts : List Tgt) (d : PyData) (ds : List PyData) (ρ : Rho) : tTup.go (t :: ts) (d :: ds) ρ = (t d ρ).bind fun ρ' => tTup.go ts ds ρ' := rfl
end Eg
namespace Eg
open PySem L2 PySem.W PySem.SeqAt
/-! ## data that can be shown and compared with itself: n signs at most, k deep at most -/
def Fd (n k : Nat) (d : PyData) : Prop := Sh n k d ∧ alike d d = true
theorem _root_.Eg.Sh.mono' {n m k l : Nat} {d : PyData} (h : Sh n k d) (hn : n ≤ m) (hk : k ≤ l) : Sh m l d := ⟨h.1, Nat.le_trans h.2.1 hn, Nat.le_trans h.2.2 hk⟩
theorem Fd.mono {n m k l : Nat} {d : PyData} (h : Fd n k d) (hn : n ≤ m) (hk : k ≤ l) : Fd m l d := ⟨h.1.mono' hn hk, h.2⟩
theorem Fd.str {x : Str} {n : Nat} (h : (reprText x).length ≤ n) : Fd n 0 (.str x) := ⟨Sh.str h, by simp [alike]⟩
theorem Fd.bool (b : Bool) : Fd 5 0 (.bool b) := ⟨by cases b <;> exact ⟨by rw [PyData.showable], by decide +kernel, by rw [PyData.depth]; exact Nat.le_refl _⟩, by simp [alike]⟩
theorem Fd.none : Fd 4 0 .none := ⟨⟨by rw [PyData.showable], by decide +kernel, by rw [PyData.depth]; exact Nat.le_refl _⟩, by simp [alike]⟩
theorem Fd.int {i : Int} {n : Nat} (h : i.natAbs < 10 ^ n) (h0 : 0 < n := by decide) (hn : n ≤ 400 := by decide) : Fd (n + 1) 0 (.int i) := by
  refine ⟨⟨?_, ?_, by rw [PyData.depth]; exact Nat.le_refl _⟩, by simp [alike]⟩
  · rw [PyData.showable]
    refine decide_eq_true ?_
    by_cases z : i.natAbs = 0
    · rw [z]; decide
    · have h2 : (10 : Nat) ^ n ≤ 2 ^ (4 * n) := by
        rw [Nat.pow_mul]
        exact Nat.pow_le_pow_left (by decide) n
      have := (Nat.log2_lt z).mpr (Nat.lt_of_lt_of_le h h2)
      omega
  · rw [PyData.shown]
    show (Str.ofString (toString i)).length ≤ n + 1
    rw [ofString_length]
    exact int_text_length_le10 h0 h
theorem alikeAll_self : ∀ {ds : List PyData}, (∀ d ∈ ds, alike d d = true) → alikeAll ds ds = true
  | [], _ => by simp [alikeAll]
  | d :: ds, h => by
    rw [alikeAll, h d List.mem_cons_self, alikeAll_self fun x hx => h x (List.mem_cons_of_mem _ hx)]
    rfl
theorem Fd.list {n k m : Nat} {ds : List PyData} (h : ∀ d ∈ ds, Fd n k d) (hm : ds.length ≤ m) : Fd ((n + 2) * m + 3) (k + 1) (.list ds) := ⟨Sh.list (fun d hd => (h d hd).1) hm, by rw [alike]; exact alikeAll_self fun d hd => (h d hd).2⟩
theorem Fd.tuple {n k m : Nat} {ds : List PyData} (h : ∀ d ∈ ds, Fd n k d) (hm : ds.length ≤ m) : Fd ((n + 2) * m + 3) (k + 1) (.tuple ds) := ⟨Sh.tuple (fun d hd => (h d hd).1) hm, by rw [alike]; exact alikeAll_self fun d hd => (h d hd).2⟩
theorem Fd.repr {n k : Nat} {d : PyData} (h : Fd n k d) (hn : n ≤ 16777216 := by decide) (hk : k ≤ 60 := by decide) : gRepr [d] = some (.sh (.str d.shown)) := h.1.repr hn hk
theorem Fd.small {n k : Nat} {d : PyData} (h : Fd n k d) (hk : k ≤ 60 := by decide) : small d = true := decide_eq_true (Nat.le_trans h.1.2.2 hk)
theorem Fd.eqR {n k : Nat} {d : PyData} (h : Fd n k d) (hk : k ≤ 60 := by decide) : gEq d d = some (.bool true) := gEq_refl h.2 (h.small hk)
theorem Fd.neR {n k : Nat} {d : PyData} (h : Fd n k d) (hk : k ≤ 60 := by decide) : gNe d d = some (.bool false) := gNe_refl h.2 (h.small hk)
theorem gNe_strR (x : Str) : gNe (.str x) (.str x) = some (.bool false) := gNe_refl (by simp [alike]) (by simp [Eg.small, PyData.depth])
theorem gEq_strR (x : Str) : gEq (.str x) (.str x) = some (.bool true) := gEq_refl (by simp [alike]) (by simp [Eg.small, PyData.depth])
/-- each of a few -/
theorem all1 {p : PyData → Prop} {a : PyData} (ha : p a) : ∀ d ∈ [a], p d := fun d h => by simp at h; rw [h]; exact ha
theorem all2 {p : PyData → Prop} {a b : PyData} (ha : p a) (hb : p b) : ∀ d ∈ [a, b], p d := fun d h => by
  rcases List.mem_cons.mp h with rfl | h
  · exact ha
  · exact all1 hb d h
theorem all3 {p : PyData → Prop} {a b c : PyData} (ha : p a) (hb : p b) (hc : p c) : ∀ d ∈ [a, b, c], p d := fun d h => by
  rcases List.mem_cons.mp h with rfl | h
  · exact ha
  · exact all2 hb hc d h
theorem all4 {p : PyData → Prop} {a b c e : PyData} (ha : p a) (hb : p b) (hc : p c) (he : p e) : ∀ d ∈ [a, b, c, e], p d := fun d h => by
  rcases List.mem_cons.mp h with rfl | h
  · exact ha
  · exact all3 hb hc he d h
theorem allM {α : Type} {p : PyData → Prop} {f : α → PyData} {l : List α} (h : ∀ x ∈ l, p (f x)) : ∀ d ∈ l.map f, p d := fun d hd => by
  obtain ⟨x, hx, rfl⟩ := List.mem_map.mp hd
  exact h x hx
/-! ## displays of any length -/
theorem tupG_ok {ds : List PyData} (h : ds.length ≤ sizeLine) : tupG ds = some (.tuple ds) := if_pos h
theorem lstG_ok {ds : List PyData} (h : ds.length ≤ sizeLine) : lstG ds = some (.ol ds) := if_pos h
theorem tp0 : tupG [] = some (.tuple []) := tupG_ok (by show 0 ≤ sizeLine; decide)
theorem tp1 (a : PyData) : tupG [a] = some (.tuple [a]) := tupG_ok (by show 1 ≤ sizeLine; decide)
theorem tp2 (a b : PyData) : tupG [a, b] = some (.tuple [a, b]) := tupG_ok (by show 2 ≤ sizeLine; decide)
theorem tp3 (a b c : PyData) : tupG [a, b, c] = some (.tuple [a, b, c]) := tupG_ok (by show 3 ≤ sizeLine; decide)
theorem tp4 (a b c d : PyData) : tupG [a, b, c, d] = some (.tuple [a, b, c, d]) := tupG_ok (by show 4 ≤ sizeLine; decide)
theorem tp5 (a b c d e : PyData) : tupG [a, b, c, d, e] = some (.tuple [a, b, c, d, e]) := tupG_ok (by show 5 ≤ sizeLine; decide)
theorem tp6 (a b c d e f : PyData) : tupG [a, b, c, d, e, f] = some (.tuple [a, b, c, d, e, f]) := tupG_ok (by show 6 ≤ sizeLine; decide)
theorem tp7 (a b c d e f g : PyData) : tupG [a, b, c, d, e, f, g] = some (.tuple [a, b, c, d, e, f, g]) := tupG_ok (by show 7 ≤ sizeLine; decide)
theorem ls0 : lstG [] = some (.ol []) := lstG_ok (by show 0 ≤ sizeLine; decide)
theorem ls1 (a : PyData) : lstG [a] = some (.ol [a]) := lstG_ok (by show 1 ≤ sizeLine; decide)
theorem ls2 (a b : PyData) : lstG [a, b] = some (.ol [a, b]) := lstG_ok (by show 2 ≤ sizeLine; decide)
theorem ls3 (a b c : PyData) : lstG [a, b, c] = some (.ol [a, b, c]) := lstG_ok (by show 3 ≤ sizeLine; decide)
theorem ls4 (a b c d : PyData) : lstG [a, b, c, d] = some (.ol [a, b, c, d]) := lstG_ok (by show 4 ≤ sizeLine; decide)
theorem ls5 (a b c d e : PyData) : lstG [a, b, c, d, e] = some (.ol [a, b, c, d, e]) := lstG_ok (by show 5 ≤ sizeLine; decide)
theorem ls6 (a b c d e f : PyData) : lstG [a, b, c, d, e, f] = some (.ol [a, b, c, d, e, f]) := lstG_ok (by show 6 ≤ sizeLine; decide)
theorem ls7 (a b c d e f g : PyData) : lstG [a, b, c, d, e, f, g] = some (.ol [a, b, c, d, e, f, g]) := lstG_ok (by show 7 ≤ sizeLine; decide)
theorem tuL (ds : List PyData) : gTuple [.list ds] = some (.sh (.tuple ds)) := rfl
end Eg
namespace Eg
open PySem L2 PySem.W PySem.SeqAt
section
variable {X : Cx} {C : Ct} {e a b c o tg iter : Expr} {es : List Expr} {pos p p1 p2 apos cpos pos' : Pos} {P : List Nat} {σ σ1 : St} {ρ ρ1 : Rho} {F H F1 H1 : Hp}
/-! ## isinstance(x, T) -/
def gIsi (T : String) (d : PyData) : Option PyData := (tyName d).bind fun U => (kitB U T).map .bool
theorem sqT_tyX {K : PySem.W.Frag} {H : Hp} {a : Addr} {xs : List V} (h : SqT K H a xs) : TyX K H (.ref a) (.type "tuple") := by
  rcases h with (h | ⟨o, h⟩) | ⟨o, _, _, h, h2, _⟩
  · exact .base (.tup h)
  · exact .fTuple h
  · exact .kTuple h h2
theorem Vw.tyX {K : Kw} {v : V} {d : PyData} {U : String} (h : Vw K F H v d) (s : Same F H) (e : tyName d = some U) : TyX K H v (.type U) := by
  cases d with
  | list ds => cases e; obtain ⟨q, vs, rfl, h1, _⟩ := h; exact .base (.lst h1)
  | none => cases e; cases h; exact .base .non
  | bool b => cases e; cases h; exact .base (.bl b)
  | int b => cases e; cases h; exact .base (.int b)
  | str b => cases e; cases h; exact .base (.str b)
  | tuple ds =>
    cases e
    have h' : DV K F v (.tuple ds) := h
    cases h' with
    | tup h1 h2 => exact sqT_tyX (s.sqT h1)
  | _ => cases e
theorem b_isi : bootBuiltins "isinstance" = some (.builtin "isinstance") := by decide +kernel
theorem d_isi {T : String} {x : Str} {ma : M Arg} (hg : Gl X "isinstance") (hm : X.mg "isinstance" = none) (hg2 : Gl X x) (hm2 : X.mg x = none) (hv : bootBuiltins x = some (.type T)) (ha : PE X a (tA C ma)) (hK : X.KW = C.K := by rfl)
    (hn : x ≠ "__name__" := by decide) (hdb : (x == ("__debug__" : Str)) = false := by decide) (he : starEach [a, .Name x p2] X.env = (false, eval a X.env) :: starEach [.Name x p2] X.env := by rfl) (he2 : starEach [.Name x p2] X.env = [(false, eval (.Name x p2) X.env)] := by rfl) :
    PE X (.Call (.Name "isinstance" p1) [a, .Name x p2] [] pos) (tD C (m1 (gIsi T) ma)) :=
  (pe_callB call_isi hg hm b_isi (pa_cons ha (pa_cons (pe_bltn (v := .ty T) hg2 hm2 hv rfl hn hdb) pa_nil (by rw [he2]; rfl)) he) (he := he) (hpl := by rw [he2]; rfl)).imp fun σ H Q ⟨F, ρ, sr, q⟩ =>
    one1 sr q fun x dx d ρ2 F2 H2 s2 r e q => by
      unfold gIsi at e
      cases e1 : tyName dx with
      | none => rw [e1] at e; cases e
      | some U =>
        rw [e1] at e
        simp only [Option.bind_some] at e
        cases e2 : kitB U T with
        | none => rw [e2] at e; cases e
        | some k => rw [e2] at e; cases e; exact ⟨x, .ty T, _, _, k, rfl, .ty T, (show X.K = C.K.fr from congrArg Kw.fr hK) ▸ r.tyX s2.sub e1, kit_ty e2, q F2 H2 _ Grow.refl s2 (.bl _)⟩
/-! ## math.gcd -/
def gGcd : List PyData → Option OD
  | [.int a, .int b] => some (.sh (.int ((Nat.gcd a.natAbs b.natAbs : Nat) : Int)))
  | _ => none
theorem co_gcd : CallO X (.builtin "math.gcd") gGcd := callO_of cr_gcd fun F H xs ds o Q sub vw e q => by
  match ds, vw, e with
  | [.int x, .int y], .cons h1 (.cons h2 .nil), e =>
    cases e
    cases h1
    cases h2
    exact ⟨x, y, rfl, q _ _ _ (.asis (.int _))⟩
theorem o_callMg {id : String} {x : Str} {p : Pos} {g : List PyData → Option OD} {ms : M (List Arg)} (hc : CallO X (.builtin id) g) (hg : Gl X x) (hm : X.mg x = some (.builtin id)) (ha : PA X (e :: es) (tL C ms)) (hdb : (x == ("__debug__" : Str)) = false := by decide)
    (he : starEach (e :: es) X.env = (false, eval e X.env) :: starEach es X.env := by rfl) (hpl : (backTo pos (starEach es X.env)).any (·.1) = false := by rfl) (hK : X.KW = C.K := by rfl) : PE X (.Call (.Name x p) (e :: es) [] pos) (tO C (mL g ms)) := by
  refine ⟨fun pins s σ H Q I ⟨F, ρ, sr, pp⟩ => ?_⟩
  refine wpAny_Call_Name_kw (ld_glob I hg hm ?_ hdb)
  refine PyProof.Rows.callWith_builtin1 (thn (ha.run pos pins s σ H (fun xs H2 => ∃ ds d ρ2 F2, SR C.K F2 H2 σ ρ2 ∧ Vws C.K F2 H2 xs ds ∧ g ds = some d ∧ PostE C (rO C.K) σ ρ2 F2 H2 Q (.ok d ρ2)) I (many sr stb_O pp fun xs ds d ρ2 F2 H2 s2 vw e q => ⟨ds, d, ρ2, F2, s2, vw, e, q⟩))
    fun us s1 ⟨vs, H1, I1, r1, ds, d, ρ2, F2, s2, vw, e, q⟩ => ?_) he hpl
  exact hc pins s1 σ F2 H1 vs us ds d Q I1 r1 s2.sub (hK ▸ vw) e fun F' H' w h => Alloc.post s2 (hK ▸ h) q
/-! ## xs[k] = v of a slot -/
def putLO (x : Option (Option OD)) (i : Nat) (d kd : PyData) : M Out := fun ρ => match kd, x with
  | .int j, some (some (.ol xs)) => (match ixN xs.length j with
    | some n => .ok .nx (ρ.set i (some (.ol (xs.set n d))))
    | none => .bad)
  | _, _ => .bad
def sPutL (i : Nat) (mv mk : M PyData) : M Out := mv.bind fun d => mOl i (mk.bind fun kd => fun ρ => putLO ρ[i]? i d kd ρ)
theorem s_putL {i : Nat} {value : Expr} {mv mk : M PyData} (ho : PE X o (tVar i)) (hi : PE X e (tD C mk)) (hv : PE X value (tD C mv)) (hs : swapsWithSole [.Subscript o e pos'] value pos.line X.env = pure false := by rfl) (hw : swappedStores [.Subscript o e pos'] value X.env = pure none := by rfl)
    (h1 : (assignEach [.Subscript o e pos'] X.env).map (·.2) = [assign (.Subscript o e pos') X.env] := by rfl)
    (hsub : ∀ v, assign (.Subscript o e pos') X.env v = (do
      let ov ← holding [v] (eval o X.env)
      let iv ← holding [v, ov] (eval e X.env)
      standAt pos'
      holding [v, ov, iv] (setItem ov iv v)
      release [v, ov, iv] []) := by intro _; rfl) :
    PS X (.Assign [.Subscript o e pos'] value pos) (tS C P (sPutL i mv mk)) :=
  (ps_asg hv (pg_sub ho hi set_list hsub) hs hw h1).imp fun D σ H ⟨F, ρ, sr, p⟩ => by
    refine ⟨F, ρ, sr, PostS.part (P := P) p fun d ρ1 F1 H1 v q1 g1 s1 r1 => ?_⟩
    unfold mOl at q1
    split at q1
    · rename_i hio
      obtain ⟨xs0, eo⟩ := isOl_at hio
      obtain ⟨x, hx, _⟩ := s1.sl i _ eo
      refine ⟨x, hx, F1, ρ1, s1, PostS.part (P := P) q1 fun kd ρ2 F2 H2 y q2 g2 s2 r2 => ?_⟩
      unfold putLO at q2
      split at q2
      · rename_i j xs eo2
        split at q2
        · rename_i n hz
          obtain ⟨x', hx', a, vs, rfl, k1, k2, k3⟩ := s2.sl i _ eo2
          rw [hx] at hx'; cases hx'
          cases r2
          have st := SR.write (i := i) (o' := .ol (xs.set n d)) (u := .lst (vs.set n v)) s2 eo2 rfl hx rfl ⟨a, vs.set n v, rfl, k1, upd_same, DVs.set (DV.mono g2.ext r1) n k3⟩
          exact ⟨a, vs, j, n, rfl, rfl, k2, by rw [k3.len]; exact hz, q2 F2 _ σ st.2 st.1 Pres.refl⟩
        · exact q2.elim
      · exact q2.elim
    · exact q1.elim
/-! ## xs.extend(ys) of a slot -/
def extO (x : Option (Option OD)) (i : Nat) (d : PyData) : M PyData := fun ρ => match x, d with
  | some (some (.ol xs)), .list ys => if xs.length + ys.length ≤ sizeLine then .ok .none (ρ.set i (some (.ol (xs ++ ys)))) else .bad
  | _, _ => .bad
def mExtend (i : Nat) (m : M PyData) : M PyData := m.bind fun d => fun ρ => extO ρ[i]? i d ρ
theorem x_extend {i : Nat} {m : M PyData} (ho : PE X o (tVar i)) (he : PE X e (tD C m))
    (hbase : attributeBase o "extend" X.env (eval o X.env) = eval o X.env := by rfl)
    (hfew : ((backTo cpos (starEach [e] X.env)).all (fun z => !z.1) && (backToKw cpos (keywordEach [] X.env)).all (fun z => z.1.isSome)
      && decide ([e].length + ([] : List Keyword).length + (if ([] : List Keyword).isEmpty then 0 else 1) < 30)) = true := by rfl)
    (hline : (apos.endLine == cpos.line) = true := by rfl) (hs : starEach [e] X.env = (false, eval e X.env) :: starEach [] X.env := by rfl) :
    PE X (.Call (.Attribute o "extend" apos) [e] [] cpos) (tD C (mOl i (mExtend i m))) := by
  refine (pe_bm PySem.F.plainAttrs_list PySem.F.slot_list_extend PySem.F.type_list_extend mt_extend ho (pa_cons he pa_nil hs) hbase hfew hline hs rfl).imp fun σ H Q ⟨F, ρ, sr, p⟩ => ?_
  unfold mOl at p
  split at p
  · rename_i hi
    obtain ⟨xs, ex⟩ := isOl_at hi
    obtain ⟨v, hv, a, vs, rfl, h1, h2, h3⟩ := sr.sl i _ ex
    refine ⟨_, hv, .inl ⟨rfl, vs, SqL.of h2⟩, F, ρ, sr, p.part fun d ρ1 F1 H1 y e1 q1 g1 s1 r1 => ?_⟩
    have q1 := q1.on stb_D g1
    unfold extO at q1
    split at q1
    · rename_i ys zs q _
      split at q1
      · rename_i hz
        obtain ⟨v', hv', b, ws, e2, k1, k2, k3⟩ := s1.sl i _ q
        rw [hv] at hv'; cases hv'; cases e2
        cases r1 with
        | @lst c us ds c1 c2 =>
          have st := SR.write (i := i) (o' := .ol (ys ++ zs)) (u := .lst (ws ++ us)) s1 q rfl hv rfl ⟨a, ws ++ us, rfl, k1, upd_same, k3.append c2⟩
          exact ⟨a, c, ws, us, rfl, rfl, k2, s1.sub _ _ c1, by rw [k3.len, c2.len]; exact hz, q1 F1 _ _ st.2 st.1 .non⟩
      · exact q1.elim
    · exact q1.elim
  · exact p.elim
end
section
variable {ρ : Rho}
theorem v_putL (i : Nat) (mv mk : M PyData) : sPutL i mv mk ρ = (mv ρ).go fun d => mOl i (mk.bind fun kd => fun ρ => putLO ρ[i]? i d kd ρ) := rfl
theorem v_putLO {xs : List PyData} {i n : Nat} {d : PyData} {j : Int} (h : ixN xs.length j = some n) : putLO (some (some (.ol xs))) i d (.int j) ρ = .ok .nx (ρ.set i (some (.ol (xs.set n d)))) := by
  simp only [putLO, h]
theorem v_ext (i : Nat) (m : M PyData) : mExtend i m ρ = (m ρ).go fun d => fun ρ => extO ρ[i]? i d ρ := rfl
theorem v_exto {xs ys : List PyData} {i : Nat} (h : xs.length + ys.length ≤ sizeLine) : extO (some (some (.ol xs))) i (.list ys) ρ = .ok .none (ρ.set i (some (.ol (xs ++ ys)))) := if_pos h
end
/-! ## a def that calls itself -/
theorem fnG_bad {P : Program} {w : World} {K : PySem.W.Frag} {mg : Str → Option Value} {base : Heap} {k n : Nat} {f : Addr} {fd : FuncData} {ps : List Str} {XR : Hp → Hp → Value → Option Addr → Xc → Prop} (hn : ps.length = n) : FnG P w K mg base (L2.CX P w) k f fd ps (spI K w XR n fun _ => .bad) :=
  ⟨fun vs H Q E h => hn.trans h.1.symm, fun A outer s H args us vs Q E _ _ _ _ _ h => by
    obtain ⟨_, F, os, _, p⟩ := h
    exact p.elim⟩
end Eg
namespace Eg
open PySem L2 PySem.W PySem.SeqAt
/-! ## calls by names, in any order, some left out -/
structure Dft (K : PySem.W.Frag) (v : V) (u : Value) (d : PyData) : Prop where
  rel : RelV v u
  dv : ∀ (w : World) (F : Hp), DV ⟨K, w⟩ F v d
abbrev Pick := List (Nat ⊕ (V × Value × PyData))
def pkU (π : Pick) (us : List Value) : List Value := π.map fun x => match x with
  | .inl i => us.getD i .none
  | .inr t => t.2.1
def pkV (π : Pick) (vs : List V) : List V := π.map fun x => match x with
  | .inl i => vs.getD i .non
  | .inr t => t.1
def pkA (π : List (Nat ⊕ PyData)) (as : List Arg) : List Arg := π.map fun x => match x with
  | .inl i => as.getD i (.dat .none)
  | .inr d => .dat d
def forget (π : Pick) : List (Nat ⊕ PyData) := π.map fun x => match x with
  | .inl i => .inl i
  | .inr t => .inr t.2.2
def pkOk (K : PySem.W.Frag) (n : Nat) : Pick → Prop
  | [] => True
  | .inl i :: π => i < n ∧ pkOk K n π
  | .inr t :: π => Dft K t.1 t.2.1 t.2.2 ∧ pkOk K n π
theorem valsGet : ∀ {vs : List V} {us : List Value} (i : Nat), Vals vs us → RelV (vs.getD i .non) (us.getD i .none)
  | _, _, _, .nil => rfl
  | _, _, 0, .cons h _ => h
  | _, _, i + 1, .cons _ h => by simpa using valsGet i h
theorem pkVals {K : PySem.W.Frag} {n : Nat} : ∀ {π : Pick} {vs : List V} {us : List Value}, pkOk K n π → Vals vs us → Vals (pkV π vs) (pkU π us)
  | [], _, _, _, _ => .nil
  | .inl i :: π, _, _, h, r => .cons (valsGet i r) (pkVals h.2 r)
  | .inr t :: π, _, _, h, r => .cons h.1.rel (pkVals h.2 r)
theorem rAsGet {K : Kw} {F : Hp} {σ : St} : ∀ {vs : List V} {as : List Arg} (i : Nat), rAs K F σ vs as → i < vs.length → ∀ {ws : List V} {bs : List Arg}, rAs K F σ ws bs → rAs K F σ (vs.getD i .non :: ws) (as.getD i (.dat .none) :: bs)
  | _, _, 0, .dat h _, _, _, _, t => .dat h t
  | _, _, 0, .slot h _, _, _, _, t => .slot h t
  | _, _, i + 1, .dat _ r, l, _, _, t => by simpa using rAsGet i r (by simpa using l) t
  | _, _, i + 1, .slot _ r, l, _, _, t => by simpa using rAsGet i r (by simpa using l) t
theorem pkAs {K : Kw} {F : Hp} {σ : St} {n : Nat} {vs : List V} {as : List Arg} (r : rAs K F σ vs as) (hl : vs.length = n) : ∀ {π : Pick}, pkOk K n π → rAs K F σ (pkV π vs) (pkA (forget π) as)
  | [], _ => .nil
  | .inl i :: π, h => rAsGet i r (by rw [hl]; exact h.1) (pkAs r hl h.2)
  | .inr t :: π, h => .dat (h.1.dv K.w F) (pkAs r hl h.2)
def mPick (π : List (Nat ⊕ PyData)) (ms : M (List Arg)) : M (List Arg) := ms.bind fun as => M.ret (pkA π as)
def BindsP (K : PySem.W.Frag) (fd : FuncData) (ps ks : List Str) (n1 n2 : Nat) (π : Pick) : Prop := ∀ (s : Shared) (us ws : List Value), K.In s.heap → us.length = n1 → ws.length = n2 → BindsTo s fd ⟨us, ks.zip ws⟩ (ps.zip (pkU π (us ++ ws)))
section
variable {X : Cx} {C : Ct} {e a b : Expr} {es : List Expr} {pos p : Pos} {k : Nat} {f : Addr} {fd : FuncData} {ps ks : List Str} {x : Str} {n1 n2 n : Nat} {π : Pick} {sm : List (Nat ⊕ PyData)} {kws : List Keyword} {m : Fn}
theorem pick_eq (ms mk : M (List Arg)) (π : List (Nat ⊕ PyData)) (ρ : Rho) : mCall m (mPick π (mApp ms mk)) ρ = (ms.bind fun as => mk.bind fun bs => fun ρ => match argsS ρ (pkA π (as ++ bs)) with
    | some os => (match m (os.map some) with
      | .ok r _ => .ok r ρ
      | .ex x _ => .ex x ρ
      | .bad => .bad)
    | none => .bad) ρ := by
  unfold mCall mPick mApp M.bind M.ret
  cases ms ρ with
  | ok as ρ1 =>
    simp only
    cases mk ρ1 <;> rfl
  | _ => rfl
/-- what is asked of the values -/
theorem pick_go {ms mk : M (List Arg)} {σ : St} {ρ : Rho} {F0 H : Hp} {Q : VK} (hK : X.KW = C.K) (ok : pkOk X.K (n1 + n2) π) (hn : π.length = n) (h1 : LenOk ms n1) (h2 : LenOk mk n2) (sr : SR C.K F0 H σ ρ) (pp : PostE C (rO C.K) σ ρ F0 H Q (mCall m (mPick (forget π) (mApp ms mk)) ρ)) :
    tL C ms σ H fun vs H1 => tL C mk σ H1 fun zs H2 => (vs.length = n1 ∧ zs.length = n2) ∧ spI X.K X.w C.XR n m (pkV π (vs ++ zs)) H2 Q (WE C.W σ) := by
  refine ⟨F0, ρ, sr, ?_⟩
  rw [pick_eq] at pp
  refine PostE.part (RA := rL C.K) pp fun as ρ1 F1 H1 xs e1 q1 g1 s1 r1 => ?_
  have q1 := q1.on stb_O g1
  refine ⟨F1, ρ1, s1, PostE.part (RA := rL C.K) q1 fun bs ρ2 F2 H2 zs e2 q2 g2 s2 r2 => ?_⟩
  have q2 := q2.on stb_O g2
  have l1 : xs.length = n1 := by rw [r1.len]; exact h1 _ _ _ e1
  have l2 : zs.length = n2 := by rw [r2.len]; exact h2 _ _ _ e2
  refine ⟨⟨l1, l2⟩, ?_⟩
  have ra := pkAs ((rAs.mono g2.ext r1).append r2) (by rw [List.length_append, l1, l2]) ((show X.K = C.K.fr from congrArg Kw.fr hK) ▸ ok)
  cases ea : argsS ρ2 (pkA (forget π) (as ++ bs)) with
  | none => simp only [ea] at q2; exact q2.elim
  | some os =>
    simp only [ea] at q2
    obtain ⟨k1, k2⟩ := argsS_at s2 ra ea
    obtain ⟨sa, no⟩ := SR.args s2 k1 k2
    refine ⟨by rw [pkV, List.length_map, hn], F2, os, (show (⟨X.K, X.w⟩ : Kw) = C.K from hK) ▸ sa, ?_⟩
    rw [show (⟨X.K, X.w⟩ : Kw) = C.K from hK]
    cases e3 : m (os.map some) with
    | bad => simp only [e3] at q2; exact q2.elim
    | ok r ρa =>
      simp only [e3] at q2
      intro F' H' v g' s' ro
      obtain ⟨s3, g3⟩ := s2.after0 no g' s'.sub
      refine q2 F' H' v g3 s3 ⟨ro.1, fun io a ea => ?_⟩
      have hn : H2 a = none := ((ro.2 io a ea).2).resolve_right (no a)
      refine ⟨fun z => ?_, .inl hn⟩
      obtain ⟨_, u, hu⟩ := own.at s2 z
      rw [hn] at hu; cases hu
    | ex y ρa =>
      simp only [e3] at q2
      intro F' H' cls d g' s' xr
      obtain ⟨s3, g3⟩ := s2.after0 no g' s'.sub
      exact q2 F' H' cls d g3 s3 xr
theorem o_fnP {ms mk : M (List Arg)} (F : FnG X.prog X.w X.K X.mg X.base (L2.CX X.prog X.w) k f fd ps (spI X.K X.w C.XR n m)) (hG : X.A.guards = some []) (hr : Room k X.A) (hg : Gl X x) (hm : X.mg x = some (.ref f)) (hk : PySem.W.keepIn X.K (.ref f) = true) (hb : BindsP X.K fd ps ks n1 n2 π) (ok : pkOk X.K (n1 + n2) π) (hn : π.length = n) (hs : forget π = sm) (tk : Takes X C.W) (ha : PA X (e :: es) (tL C ms)) (hkw : PK X kws (tL C mk))
    (h1 : LenOk ms n1) (h2 : LenOk mk n2) (hall : (backToKw pos (keywordEach kws X.env)).all (·.1.isSome) = true := by rfl) (hks : (backToKw pos (keywordEach kws X.env)).filterMap (·.1) = ks := by rfl)
    (hdb : (x == ("__debug__" : Str)) = false := by decide) (he : starEach (e :: es) X.env = (false, eval e X.env) :: starEach es X.env := by rfl)
    (hpl : ((backTo pos (starEach (e :: es) X.env)).any (·.1) || (backToKw pos (keywordEach kws X.env)).any (·.1.isNone)) = false := by rfl) (hK : X.KW = C.K := by rfl) : PE X (.Call (.Name x p) (e :: es) kws pos) (tO C (mCall m (mPick sm (mApp ms mk)))) := by
  subst hs
  refine ⟨fun pins s σ H Q I ⟨F0, ρ, sr, pp⟩ => ?_⟩
  refine wpAny_Call_Name_kw (ld_glob I hg hm ?_ hdb)
  have go := pick_go hK ok hn h1 h2 sr pp
  refine PySem.W.callWith_KW (h₀ := X.base) I.ok.mod.kin hk hall (thn (ha.run pos pins s σ H _ I go) fun us s1 ⟨vs, H1, I1, r, q⟩ => ?_) hpl he
  refine thn (hkw.run pos pins s1 σ H1 _ I1 q) fun ws s2 ⟨zs, H2, I2, rz, ⟨l1, l2⟩, q2⟩ => ⟨I2.kIn, ?_⟩
  rw [hks]
  have bt := hb s2 us ws I2.kIn (by rw [← r.length]; exact l1) (by rw [← rz.length]; exact l2)
  refine wpAny_call (codeAny_mono (F.run X.A X.stack s2 H2 ⟨us, ks.zip ws⟩ _ (pkV π (vs ++ zs)) Q (WE C.W σ) hG hr I2.env0 bt (pkVals ok (r.append rz)) q2) fun res s' q => ?_)
  match res, q with
  | .error e, q => exact passAt tk σ pins H2 s2 e s' I2 q
  | .ok (.ret u), q => exact I2.after q
/-- no argument by its place -/
theorem o_fnP0 {mk : M (List Arg)} (F : FnG X.prog X.w X.K X.mg X.base (L2.CX X.prog X.w) k f fd ps (spI X.K X.w C.XR n m)) (hG : X.A.guards = some []) (hr : Room k X.A) (hg : Gl X x) (hm : X.mg x = some (.ref f)) (hk : PySem.W.keepIn X.K (.ref f) = true) (hb : BindsP X.K fd ps ks 0 n2 π) (ok : pkOk X.K (0 + n2) π) (hn : π.length = n) (hs : forget π = sm) (tk : Takes X C.W) (hkw : PK X kws (tL C mk))
    (h2 : LenOk mk n2) (hall : (backToKw pos (keywordEach kws X.env)).all (·.1.isSome) = true := by rfl) (hks : (backToKw pos (keywordEach kws X.env)).filterMap (·.1) = ks := by rfl)
    (hdb : (x == ("__debug__" : Str)) = false := by decide)
    (hpl : ((backTo pos (starEach [] X.env)).any (·.1) || (backToKw pos (keywordEach kws X.env)).any (·.1.isNone)) = false := by rfl) (hK : X.KW = C.K := by rfl) : PE X (.Call (.Name x p) [] kws pos) (tO C (mCall m (mPick sm (mApp mNil mk)))) := by
  subst hs
  refine ⟨fun pins s σ H Q I ⟨F0, ρ, sr, pp⟩ => ?_⟩
  refine wpAny_Call_Name_kw (ld_glob I hg hm ?_ hdb)
  obtain ⟨F1, ρ1, s1, go⟩ := pick_go hK ok hn (n1 := 0) ll_nil h2 sr pp
  have go := go F1 H [] Grow.refl s1 .nil
  refine PySem.W.callWith_KW0 (h₀ := X.base) I.ok.mod.kin hk hall ?_ hpl
  refine thn (hkw.run pos pins s σ H _ I go) fun ws s2 ⟨zs, H2, I2, rz, ⟨l1, l2⟩, q2⟩ => ⟨I2.kIn, ?_⟩
  rw [hks]
  have bt := hb s2 [] ws I2.kIn rfl (by rw [← rz.length]; exact l2)
  refine wpAny_call (codeAny_mono (F.run X.A X.stack s2 H2 ⟨[], ks.zip ws⟩ _ (pkV π ([] ++ zs)) Q (WE C.W σ) hG hr I2.env0 bt (pkVals ok rz) q2) fun res s' q => ?_)
  match res, q with
  | .error e, q => exact passAt tk σ pins H2 s2 e s' I2 q
  | .ok (.ret u), q => exact I2.after q
end
section
variable {ρ : Rho}
theorem v_pick (π : List (Nat ⊕ PyData)) (ms : M (List Arg)) : mPick π ms ρ = (ms ρ).go fun as => M.ret (pkA π as) := rfl
theorem v_pk0 (as : List Arg) : pkA [] as = [] := rfl
theorem v_pkl (i : Nat) (π : List (Nat ⊕ PyData)) (as : List Arg) : pkA (.inl i :: π) as = as.getD i (.dat .none) :: pkA π as := rfl
theorem v_pkr (d : PyData) (π : List (Nat ⊕ PyData)) (as : List Arg) : pkA (.inr d :: π) as = .dat d :: pkA π as := rfl
end
end Eg
namespace Eg
open PySem L2 PySem.W PySem.SeqAt
/-! ## great numbers -/
def wideB (i j : Int) : Prop := i.natAbs < 2 ^ 400000 ∧ j.natAbs < 2 ^ 400000
def aMulW (x y : PyData) : Option OD := match x, y with
  | .int i, .int j => if i.natAbs.log2 < 400000 ∧ j.natAbs.log2 < 400000 then some (.sh (.int (i * j))) else none
  | x, y => aMul x y
def gFloorW : PyData → PyData → Option PyData
  | .int i, .int j => if 0 < j ∧ j.natAbs.log2 < 8000 then some (.int (i / j)) else none
  | _, _ => none
theorem ao_mulW {X : Cx} : OpO X (binaryOp .Mult) aMulW := by
  intro pins s σ F H x y v u dx dy o Q I rx ry sub h1 h2 e q
  unfold aMulW at e
  split at e
  · split at e <;> cases e
    rename_i hz
    cases h1; cases h2
    exact op_mulW pins s σ H _ _ v u Q I rx ry ⟨_, _, rfl, rfl, by unfold CMulW; omega, q _ _ _ (.asis (.int _))⟩
  · exact ao_mul pins s σ F H x y v u dx dy o Q I rx ry sub h1 h2 e q
theorem od_floorW {X : Cx} : OpD X (binaryOp .FloorDiv) gFloorW := opd_int op_fdivW fun x y d e => by
  cases x <;> cases y <;> simp only [gFloorW] at e <;> first | cases e | skip
  split at e <;> cases e
  rename_i h
  exact ⟨_, _, rfl, rfl, ⟨h.1, by have := h.2; omega⟩, rfl⟩
theorem log_lt {i : Int} {k : Nat} (h : i.natAbs < 2 ^ k) (h0 : 0 < k) : i.natAbs.log2 < k := by
  by_cases z : i.natAbs = 0
  · rw [z]; show 0 < k; exact h0
  · exact (Nat.log2_lt z).mpr h
theorem gMulW_int {i j : Int} {a b : Nat} (h1 : i.natAbs < 2 ^ a) (h2 : j.natAbs < 2 ^ b) (ha : 0 < a ∧ a ≤ 400000 := by decide) (hb : 0 < b ∧ b ≤ 400000 := by decide) : aMulW (.int i) (.int j) = some (.sh (.int (i * j))) := by
  have x := log_lt h1 ha.1
  have y := log_lt h2 hb.1
  simp only [aMulW]
  rw [if_pos ⟨by omega, by omega⟩]
theorem gFloorW_int {i j : Int} {b : Nat} (h : 0 < j) (h2 : j.natAbs < 2 ^ b) (hb : 0 < b ∧ b ≤ 8000 := by decide) : gFloorW (.int i) (.int j) = some (.int (i / j)) := by
  have y := log_lt h2 hb.1
  simp only [gFloorW]
  rw [if_pos ⟨h, by omega⟩]
theorem aMulW_rep (xs : List PyData) (k : Int) (h : -(2 ^ 63) ≤ k ∧ k < 2 ^ 63 ∧ xs.length * k.toNat ≤ sizeLine) : aMulW (.list xs) (.int k) = some (.ol (List.replicate k.toNat xs).flatten) := if_pos h
end Eg
namespace Lw
open PySem L2 PySem.W PySem.SeqAt Eg
-- pairs_of of k02
def m_pairs_of : M Out := sSeq (sSet 1 (mL gSorted (mCons (mSlot 0) (mNil)))) (sRet (mL gTuple (mCons (((mComp2 ((mName 1).bind fun d => M.lift (enumD [d])) (tTup [tName 2, tName 3]) (M.ret true) (((mSl (mSlot 1) (((m2 aAdd (mSlot 2) ((M.ret (.int 1)).bind fun d => M.ret (.dat d))).bind fz).bind fun d => (asInt d).bind fun i => M.ret (some i)) (M.ret none)).bind fz).bind seqItems) (tName 4) (M.ret true) (mFix tupG (mCons ((mName 3).bind fun d => M.ret (.dat d)) (mCons ((mName 4).bind fun d => M.ret (.dat d)) (mNil)))) [2, 3, 4] [4]).bind fz).bind fun d => M.ret (.dat d)) (mNil))))
def fn_pairs_of : Fn := fnM 4 [false] m_pairs_of
-- home_of of k02
def m_home_of : M Out := sSeq (sUn (mName 0) (tTup [tName 1, tName 2])) (sRet ((m2 gIx (mSlot 2) ((M.ret (.int 0)).bind fun d => M.ret (.dat d))).bind fun d => M.ret (.sh d)))
def fn_home_of : Fn := fnM 2 [false] m_home_of
-- _law_tap of k02
def m_tap : M Out := sRet (mDisp (("cells", (mL gList (mCons (((mScr 0 (M.ret none) ((M.ret (.int 63)).bind fun d => (asInt d).bind fun i => M.ret (some i))).bind fz).bind fun d => M.ret (.dat d)) (mNil))).bind fz) :: ("spot", M.ret (.int 0)) :: ("rest", M.ret (.int 0)) :: ("calls", M.ret (.int 0)) :: []))
def fn_tap : Fn := fnM 0 [false] m_tap
-- _law_take of k02
def m_take : M Out := sSeq (sSet 2 (m2 aAdd ((mHas 0 (mDGet 0 (M.ret (.str "calls")))).bind fun d => M.ret (.dat d)) ((M.ret (.int 1)).bind fun d => M.ret (.dat d)))) (sSeq (sPut 0 (mName 2) (M.ret (.str "calls"))) (sSeq (sIf ((m2 gGt ((mHas 0 (mDGet 0 (M.ret (.str "rest")))).bind fun d => M.ret (.dat d)) ((M.ret (.int 0)).bind fun d => M.ret (.dat d))).bind asBool) (sSeq (sSet 3 ((m2 gMod ((mHas 0 (mDGet 0 (M.ret (.str "rest")))).bind fun d => M.ret (.dat d)) (mSlot 1)).bind fun d => M.ret (.sh d))) (sSeq (sPut 0 (m2 gFloor ((mHas 0 (mDGet 0 (M.ret (.str "rest")))).bind fun d => M.ret (.dat d)) (mSlot 1)) (M.ret (.str "rest"))) (sRet (mTake 3)))) (sNext)) (sSeq (sSet 4 ((mHas 0 (mDGet 0 (M.ret (.str "spot")))).bind fun d => M.ret (.sh d))) (sSeq (sPut 0 ((m2 aAdd (mSlot 4) ((M.ret (.int 1)).bind fun d => M.ret (.dat d))).bind fz) (M.ret (.str "spot"))) (sSeq (sSet 5 ((mHas 0 (mDGet 0 (M.ret (.str "cells")))).bind fun d => M.ret (.sh d))) (sSeq (sSet 6 (mIf ((m2 gGt (((mL gLen (mCons (mSlot 5) (mNil))).bind fz).bind fun d => M.ret (.dat d)) ((M.ret (.int 0)).bind fun d => M.ret (.dat d))).bind asBool) ((m2 gIx (mSlot 5) ((m2 gMod (mSlot 4) (((mL gLen (mCons (mSlot 5) (mNil))).bind fz).bind fun d => M.ret (.dat d))).bind fun d => M.ret (.dat d))).bind fun d => M.ret (.sh d)) ((M.ret (.int 11)).bind fun d => M.ret (.sh d)))) (sSeq (sIf (mAnd ((m2 gLt (mSlot 4) (((mL gLen (mCons (mSlot 5) (mNil))).bind fz).bind fun d => M.ret (.dat d))).bind asBool) ((m2 gGe (mSlot 6) ((m2 gPow ((M.ret (.int 10)).bind fun d => M.ret (.dat d)) ((M.ret (.int 18)).bind fun d => M.ret (.dat d))).bind fun d => M.ret (.dat d))).bind asBool)) (sSeq (sPut 0 (m2 gFloor (mSlot 6) (mSlot 1)) (M.ret (.str "rest"))) (sRet ((m2 gMod (mSlot 6) (mSlot 1)).bind fun d => M.ret (.sh d)))) (sNext)) (sSeq (sSet 7 ((m2 gMod ((m2 gPow (((m2 aAdd (((m2 aAdd ((m2 gMod (mSlot 6) ((M.ret (.int 2147483629)).bind fun d => M.ret (.dat d))).bind fun d => M.ret (.dat d)) (((m2 aMul ((M.ret (.int 6029)).bind fun d => M.ret (.dat d)) (mSlot 2)).bind fz).bind fun d => M.ret (.dat d))).bind fz).bind fun d => M.ret (.dat d)) ((M.ret (.int 17)).bind fun d => M.ret (.dat d))).bind fz).bind fun d => M.ret (.dat d)) ((M.ret (.int 5)).bind fun d => M.ret (.dat d))).bind fun d => M.ret (.dat d)) ((M.ret (.int 2147483647)).bind fun d => M.ret (.dat d))).bind fun d => M.ret (.sh d))) (sRet ((m2 gMod ((m2 gFloor ((m2 gMod ((m2 gPow (((m2 aAdd (mSlot 7) (((m2 aMul (((m2 aMul ((M.ret (.int 4111)).bind fun d => M.ret (.dat d)) (mSlot 2)).bind fz).bind fun d => M.ret (.dat d)) (mSlot 2)).bind fz).bind fun d => M.ret (.dat d))).bind fz).bind fun d => M.ret (.dat d)) ((M.ret (.int 5)).bind fun d => M.ret (.dat d))).bind fun d => M.ret (.dat d)) ((M.ret (.int 2147483587)).bind fun d => M.ret (.dat d))).bind fun d => M.ret (.dat d)) ((M.ret (.int 32)).bind fun d => M.ret (.dat d))).bind fun d => M.ret (.dat d)) (mSlot 1)).bind fun d => M.ret (.sh d)))))))))))
def fn_take : Fn := fnM 6 [true, false] m_take
-- _law_towns of k02
def m_towns : M Out := sSeq (sSet 2 (mFix lstG (mCons ((M.ret (.str "ash")).bind fun d => M.ret (.dat d)) (mCons ((M.ret (.str "b")).bind fun d => M.ret (.dat d)) (mCons ((M.ret (.str "elm")).bind fun d => M.ret (.dat d)) (mCons ((M.ret (.str "oak")).bind fun d => M.ret (.dat d)) (mCons ((M.ret (.str "zzzzzzzz")).bind fun d => M.ret (.dat d)) (mNil)))))))) (sSeq (sSet 3 (mL gMin (mCons ((M.ret (.int 4)).bind fun d => M.ret (.dat d)) (mCons (((m2 aAdd (mSlot 1) (((mCallO fn_take (mCons (mSlot 0) (mCons ((M.ret (.int 3)).bind fun d => M.ret (.dat d)) (mNil)))).bind fz).bind fun d => M.ret (.dat d))).bind fz).bind fun d => M.ret (.dat d)) (mNil))))) (sSeq (sWhile ((m2 gGt (((mL gLen (mCons (mSlot 2) (mNil))).bind fz).bind fun d => M.ret (.dat d)) (mSlot 3)).bind asBool) (sExpr (mOl 2 (mPopAt 2 ((mCallO fn_take (mCons (mSlot 0) (mCons (((mL gLen (mCons (mSlot 2) (mNil))).bind fz).bind fun d => M.ret (.dat d)) (mNil)))).bind fz)))) 100) (sRet (mTake 2))))
def fn_towns : Fn := fnM 2 [true, false] m_towns
-- _law_seats of k02
def m_seats : M Out := sSeq (sPar 3 4 (mFix lstG (mNil)) (mFix lstG (mNil))) (sSeq (sFor ((mName 1).bind seqItems) (tName 5) (sSet 3 (m2 aAdd (mSlot 3) (((mComp (((mFix lstG (mCons ((M.ret (.str "a")).bind fun d => M.ret (.dat d)) (mCons ((M.ret (.str "ann")).bind fun d => M.ret (.dat d)) (mCons ((M.ret (.str "z")).bind fun d => M.ret (.dat d)) (mNil))))).bind fz).bind seqItems) (tName 7) (M.ret true) (mFix tupG (mCons ((mName 5).bind fun d => M.ret (.dat d)) (mCons ((mName 7).bind fun d => M.ret (.dat d)) (mNil)))) [7]).bind fz).bind fun d => M.ret (.dat d))))) (sSeq (sFor (mL rng1 (mCons (((mL gMin (mCons (mSlot 2) (mCons (((mL gLen (mCons (mSlot 3) (mNil))).bind fz).bind fun d => M.ret (.dat d)) (mNil)))).bind fz).bind fun d => M.ret (.dat d)) (mNil))) (tName 6) (sExpr (mOl 4 (mAppend 4 (mOl 3 (mPopAt 3 ((mCallO fn_take (mCons (mSlot 0) (mCons (((mL gLen (mCons (mSlot 3) (mNil))).bind fz).bind fun d => M.ret (.dat d)) (mNil)))).bind fz))))))) (sRet (mTake 4))))
def fn_seats : Fn := fnM 5 [true, false, false] m_seats
-- _law_twos of k02
def m_twos : M Out := sSeq (sSet 1 (mFix lstG (mNil))) (sSeq (sFor (mL rng1 (mCons (((mL gLen (mCons (mSlot 0) (mNil))).bind fz).bind fun d => M.ret (.dat d)) (mNil))) (tName 2) (sSet 1 (m2 aAdd (mSlot 1) (((mComp (((mSl (mSlot 0) (((m2 aAdd (mSlot 2) ((M.ret (.int 1)).bind fun d => M.ret (.dat d))).bind fz).bind fun d => (asInt d).bind fun i => M.ret (some i)) (M.ret none)).bind fz).bind seqItems) (tName 3) (M.ret true) (mFix tupG (mCons (((mL gMin (mCons ((m2 gIx (mSlot 0) (mSlot 2)).bind fun d => M.ret (.dat d)) (mCons (mSlot 3) (mNil)))).bind fz).bind fun d => M.ret (.dat d)) (mCons (((mL gMax (mCons ((m2 gIx (mSlot 0) (mSlot 2)).bind fun d => M.ret (.dat d)) (mCons (mSlot 3) (mNil)))).bind fz).bind fun d => M.ret (.dat d)) (mNil)))) [3]).bind fz).bind fun d => M.ret (.dat d))))) (sRet (mL gSorted (mCons (mSlot 1) (mNil)))))
def fn_twos : Fn := fnM 3 [false] m_twos
-- law of k02
def m_law : M Out := sSeq (sSet 1 (mCall fn_tap (mCons (mSlot 0) (mNil)))) (sSeq (sFor (mL rng1 (mCons ((M.ret (.int 4)).bind fun d => M.ret (.dat d)) (mNil))) (tName 2) (sSeq (sSet 3 (mCallO fn_towns (mCons (mSlot 1) (mCons (((m2 aAdd ((M.ret (.int 1)).bind fun d => M.ret (.dat d)) ((m2 gMod (mSlot 2) ((M.ret (.int 2)).bind fun d => M.ret (.dat d))).bind fun d => M.ret (.dat d))).bind fz).bind fun d => M.ret (.dat d)) (mNil))))) (sSeq (sSet 4 (mCallO fn_seats (mCons (mSlot 1) (mCons ((mName 3).bind fun d => M.ret (.dat d)) (mCons ((m2 gIx (((mFix lstG (mCons (((mCallO fn_take (mCons (mSlot 1) (mCons ((M.ret (.int 4)).bind fun d => M.ret (.dat d)) (mNil)))).bind fz).bind fun d => M.ret (.dat d)) (mCons ((M.ret (.int 12)).bind fun d => M.ret (.dat d)) (mNil)))).bind fz).bind fun d => M.ret (.dat d)) (((mCallO fn_take (mCons (mSlot 1) (mCons ((M.ret (.int 2)).bind fun d => M.ret (.dat d)) (mNil)))).bind fz).bind fun d => M.ret (.dat d))).bind fun d => M.ret (.dat d)) (mNil)))))) (sSeq (sSet 4 (mIf ((m2 gLt (((mL gLen (mCons (mSlot 4) (mNil))).bind fz).bind fun d => M.ret (.dat d)) ((M.ret (.int 11)).bind fun d => M.ret (.dat d))).bind asBool) (m2 aAdd (mSlot 4) (((mSl (((mFix lstG (mCons ((mFix tupG (mCons ((M.ret (.str "a")).bind fun d => M.ret (.dat d)) (mCons ((M.ret (.str "b")).bind fun d => M.ret (.dat d)) (mNil)))).bind fun d => M.ret (.dat d)) (mCons ((mFix tupG (mCons ((M.ret (.str "ab")).bind fun d => M.ret (.dat d)) (mCons ((M.ret (.str "a")).bind fun d => M.ret (.dat d)) (mNil)))).bind fun d => M.ret (.dat d)) (mNil)))).bind fz).bind fun d => M.ret (.dat d)) (M.ret none) (((mCallO fn_take (mCons (mSlot 1) (mCons ((M.ret (.int 3)).bind fun d => M.ret (.dat d)) (mNil)))).bind fz).bind fun d => (asInt d).bind fun i => M.ret (some i))).bind fz).bind fun d => M.ret (.dat d))) ((mName 4).bind fun d => M.ret (.sh d)))) (sSeq (sPar 5 6 (mL gRepr (mCons (mSlot 4) (mNil))) (mL gTuple (mCons (((mCall fn_twos (mCons ((mName 4).bind fun d => M.ret (.dat d)) (mNil))).bind fz).bind fun d => M.ret (.dat d)) (mNil)))) (sSeq (sFor ((mFix tupG (mCons ((mName 4).bind fun d => M.ret (.dat d)) (mCons (((m1 gRev (mSlot 4)).bind fz).bind fun d => M.ret (.dat d)) (mCons (((mL gSorted (mCons (mSlot 4) (mNil))).bind fz).bind fun d => M.ret (.dat d)) (mNil))))).bind seqItems) (tName 7) (sIf ((m2 gNe (((mL gRepr (mCons (((mCall fn_pairs_of (mCons (((mL gTuple (mCons (mSlot 7) (mNil))).bind fz).bind fun d => M.ret (.dat d)) (mNil))).bind fz).bind fun d => M.ret (.dat d)) (mNil))).bind fz).bind fun d => M.ret (.dat d)) (((mL gRepr (mCons (mSlot 6) (mNil))).bind fz).bind fun d => M.ret (.dat d))).bind asBool) (sRet ((M.ret (.bool false)).bind fun d => M.ret (.sh d))) (sNext))) (sSeq (sSet 8 (mL gLen (mCons (mSlot 4) (mNil)))) (sSeq (sIf (mOr ((m2 gNe (((mL gLen (mCons (mSlot 6) (mNil))).bind fz).bind fun d => M.ret (.dat d)) ((m2 gFloor (((m2 aMul (mSlot 8) ((m2 gSub (mSlot 8) ((M.ret (.int 1)).bind fun d => M.ret (.dat d))).bind fun d => M.ret (.dat d))).bind fz).bind fun d => M.ret (.dat d)) ((M.ret (.int 2)).bind fun d => M.ret (.dat d))).bind fun d => M.ret (.dat d))).bind asBool) ((m2 gNe (((mL gRepr (mCons (mSlot 4) (mNil))).bind fz).bind fun d => M.ret (.dat d)) (mSlot 5)).bind asBool)) (sRet ((M.ret (.bool false)).bind fun d => M.ret (.sh d))) (sNext)) (sFor ((mName 6).bind seqItems) (tName 9) (sIf (mOr (mNot ((m2 gLt ((m2 gIx (mSlot 9) ((M.ret (.int 0)).bind fun d => M.ret (.dat d))).bind fun d => M.ret (.dat d)) ((m2 gIx (mSlot 9) ((M.ret (.int 1)).bind fun d => M.ret (.dat d))).bind fun d => M.ret (.dat d))).bind asBool)) ((m2 gNe (((mCall fn_home_of (mCons ((mName 9).bind fun d => M.ret (.dat d)) (mNil))).bind fz).bind fun d => M.ret (.dat d)) ((m2 gIx ((m2 gIx (mSlot 9) ((M.ret (.int 1)).bind fun d => M.ret (.dat d))).bind fun d => M.ret (.dat d)) ((M.ret (.int 0)).bind fun d => M.ret (.dat d))).bind fun d => M.ret (.dat d))).bind asBool)) (sRet ((M.ret (.bool false)).bind fun d => M.ret (.sh d))) (sNext))))))))))) (sRet ((m2 gEq (((mL gRepr (mCons (((mCall fn_pairs_of (mCons ((mFix tupG (mNil)).bind fun d => M.ret (.dat d)) (mNil))).bind fz).bind fun d => M.ret (.dat d)) (mNil))).bind fz).bind fun d => M.ret (.dat d)) ((M.ret (.str "()")).bind fun d => M.ret (.dat d))).bind fun d => M.ret (.sh d))))
def fn_law : Fn := fnM 9 [false] m_law
end Lw
namespace Lw
open PySem L2 PySem.W PySem.SeqAt Eg
-- row_of of k03
def m_row_of : M Out := sSeq (sUn (mName 0) (tTup [tName 3, tName 4, tName 5])) (sSeq (sFor ((mName 5).bind seqItems) (tName 6) (sIf ((m2 gEq ((m2 gIx (mSlot 6) ((M.ret (.int 0)).bind fun d => M.ret (.dat d))).bind fun d => M.ret (.dat d)) (mSlot 2)).bind asBool) (sRet (mTake 6)) (sNext))) (sSeq (sSet 7 (mCall fn_home_of (mCons ((mName 2).bind fun d => M.ret (.dat d)) (mNil)))) (sSeq (sIf ((m2 gEq (mSlot 1) (mSlot 7)).bind asBool) (sRet ((mFix tupG (mCons ((mName 2).bind fun d => M.ret (.dat d)) (mCons ((mFix tupG (mCons ((mName 3).bind fun d => M.ret (.dat d)) (mCons ((M.ret (.int 0)).bind fun d => M.ret (.dat d)) (mNil)))).bind fun d => M.ret (.dat d)) (mCons ((mName 7).bind fun d => M.ret (.dat d)) (mCons ((mName 7).bind fun d => M.ret (.dat d)) (mCons ((M.ret (.int 0)).bind fun d => M.ret (.dat d)) (mCons ((mName 4).bind fun d => M.ret (.dat d)) (mCons ((M.ret (.bool true)).bind fun d => M.ret (.dat d)) (mNil))))))))).bind fun d => M.ret (.sh d))) (sNext)) (sRet ((mFix tupG (mCons ((mName 2).bind fun d => M.ret (.dat d)) (mCons ((mFix tupG (mCons ((M.ret (.int 0)).bind fun d => M.ret (.dat d)) (mCons ((M.ret (.int 0)).bind fun d => M.ret (.dat d)) (mNil)))).bind fun d => M.ret (.dat d)) (mCons ((mName 7).bind fun d => M.ret (.dat d)) (mCons ((mName 7).bind fun d => M.ret (.dat d)) (mCons ((M.ret (.int 0)).bind fun d => M.ret (.dat d)) (mCons ((M.ret (.int 0)).bind fun d => M.ret (.dat d)) (mCons ((M.ret (.bool false)).bind fun d => M.ret (.dat d)) (mNil))))))))).bind fun d => M.ret (.sh d))))))
def fn_row_of : Fn := fnM 5 [false, false, false] m_row_of
-- holds of k03
def m_holds : M Out := sSeq (sUn (mName 0) (tTup [tName 2, tName 2, tName 3, tName 2, tName 2, tName 2, tName 4])) (sRet ((mAndV (m2 gEq (mSlot 3) (mSlot 1)) (mName 4)).bind fun d => M.ret (.sh d)))
def fn_holds : Fn := fnM 3 [false, false] m_holds
-- is_mine of k03
def m_is_mine : M Out := sRet (mCall fn_holds (mCons (((mCall fn_row_of (mCons ((mName 0).bind fun d => M.ret (.dat d)) (mCons ((mName 1).bind fun d => M.ret (.dat d)) (mCons ((mName 2).bind fun d => M.ret (.dat d)) (mNil))))).bind fz).bind fun d => M.ret (.dat d)) (mCons ((mName 1).bind fun d => M.ret (.dat d)) (mNil))))
def fn_is_mine : Fn := fnM 0 [false, false, false] m_is_mine
-- burn_bars of k03
def m_burn_bars : M Out := sSeq (sSet 4 (mCall fn_row_of (mCons ((mName 0).bind fun d => M.ret (.dat d)) (mCons ((mName 1).bind fun d => M.ret (.dat d)) (mCons ((mName 2).bind fun d => M.ret (.dat d)) (mNil)))))) (sSeq (sUn (mName 4) (tTup [tName 5, tName 5, tName 6, tName 5, tName 5, tName 7, tName 5])) (sSeq (sIf (mNot (((mCall fn_holds (mCons ((mName 4).bind fun d => M.ret (.dat d)) (mCons ((mName 1).bind fun d => M.ret (.dat d)) (mNil)))).bind fz).bind asBool)) (sRet (mTake 6)) (sNext)) (sSeq (sIf ((m2 gGt (mSlot 7) (mSlot 3)).bind asBool) (sRet (mTake 7)) (sNext)) (sRet ((M.ret .none).bind fun d => M.ret (.sh d))))))
def fn_burn_bars : Fn := fnM 4 [false, false, false, false] m_burn_bars
-- _law_row of k03
def m_row : M Out := sSeq (sSet 3 ((mFix tupG (mCons (((mCallO fn_take (mCons (mSlot 0) (mCons ((M.ret (.int 3)).bind fun d => M.ret (.dat d)) (mNil)))).bind fz).bind fun d => M.ret (.dat d)) (mCons (((mCallO fn_take (mCons (mSlot 0) (mCons ((M.ret (.int 4)).bind fun d => M.ret (.dat d)) (mNil)))).bind fz).bind fun d => M.ret (.dat d)) (mNil)))).bind fun d => M.ret (.sh d))) (sSeq (sPar 4 5 ((m2 gIx (mSlot 2) (((mCallO fn_take (mCons (mSlot 0) (mCons (((mL gLen (mCons (mSlot 2) (mNil))).bind fz).bind fun d => M.ret (.dat d)) (mNil)))).bind fz).bind fun d => M.ret (.dat d))).bind fun d => M.ret (.sh d)) ((m2 gIx (mSlot 2) (((mCallO fn_take (mCons (mSlot 0) (mCons (((mL gLen (mCons (mSlot 2) (mNil))).bind fz).bind fun d => M.ret (.dat d)) (mNil)))).bind fz).bind fun d => M.ret (.dat d))).bind fun d => M.ret (.sh d))) (sRet ((mFix tupG (mCons ((mName 1).bind fun d => M.ret (.dat d)) (mCons ((mName 3).bind fun d => M.ret (.dat d)) (mCons ((mName 4).bind fun d => M.ret (.dat d)) (mCons ((mName 5).bind fun d => M.ret (.dat d)) (mCons (((mCallO fn_take (mCons (mSlot 0) (mCons ((M.ret (.int 3)).bind fun d => M.ret (.dat d)) (mNil)))).bind fz).bind fun d => M.ret (.dat d)) (mCons (((mCallO fn_take (mCons (mSlot 0) (mCons ((M.ret (.int 30)).bind fun d => M.ret (.dat d)) (mNil)))).bind fz).bind fun d => M.ret (.dat d)) (mCons ((m2 gEq (((mCallO fn_take (mCons (mSlot 0) (mCons ((M.ret (.int 2)).bind fun d => M.ret (.dat d)) (mNil)))).bind fz).bind fun d => M.ret (.dat d)) ((M.ret (.int 0)).bind fun d => M.ret (.dat d))).bind fun d => M.ret (.dat d)) (mNil))))))))).bind fun d => M.ret (.sh d))))
def fn_row : Fn := fnM 3 [true, false, false] m_row
-- _law_lot of k03
def m_lot : M Out := sSeq (sSet 3 (mL gTuple (mCons (((mComp ((mName 1).bind seqItems) (tName 4) ((m2 gGt (((mCallO fn_take (mCons (mSlot 0) (mCons ((M.ret (.int 3)).bind fun d => M.ret (.dat d)) (mNil)))).bind fz).bind fun d => M.ret (.dat d)) ((M.ret (.int 0)).bind fun d => M.ret (.dat d))).bind asBool) ((mCallO fn_row (mCons (mSlot 0) (mCons ((mName 4).bind fun d => M.ret (.dat d)) (mCons ((mName 2).bind fun d => M.ret (.dat d)) (mNil))))).bind fz) [4]).bind fz).bind fun d => M.ret (.dat d)) (mNil)))) (sRet ((mFix tupG (mCons (((mCallO fn_take (mCons (mSlot 0) (mCons ((M.ret (.int 3)).bind fun d => M.ret (.dat d)) (mNil)))).bind fz).bind fun d => M.ret (.dat d)) (mCons (((mCallO fn_take (mCons (mSlot 0) (mCons ((M.ret (.int 30)).bind fun d => M.ret (.dat d)) (mNil)))).bind fz).bind fun d => M.ret (.dat d)) (mCons ((mName 3).bind fun d => M.ret (.dat d)) (mNil))))).bind fun d => M.ret (.sh d)))
def fn_lot : Fn := fnM 2 [true, false, false] m_lot
-- _law_own of k03
def m_own : M Out := sSeq (sSet 3 (mComp ((m2 gIx (mSlot 0) ((M.ret (.int 2)).bind fun d => M.ret (.dat d))).bind seqItems) (tName 5) ((m2 gEq ((m2 gIx (mSlot 5) ((M.ret (.int 0)).bind fun d => M.ret (.dat d))).bind fun d => M.ret (.dat d)) (mSlot 2)).bind asBool) (mName 5) [5])) (sSeq (sIf ((m2 gNe (mSlot 3) (((mFix lstG (mNil)).bind fz).bind fun d => M.ret (.dat d))).bind asBool) (sRet ((m2 gIx (mSlot 3) ((M.ret (.int 0)).bind fun d => M.ret (.dat d))).bind fun d => M.ret (.sh d))) (sNext)) (sSeq (sSet 4 ((m2 gIx ((m2 gIx (mSlot 2) ((M.ret (.int 1)).bind fun d => M.ret (.dat d))).bind fun d => M.ret (.dat d)) ((M.ret (.int 0)).bind fun d => M.ret (.dat d))).bind fun d => M.ret (.sh d))) (sSeq (sIf ((m2 gEq (mSlot 4) (mSlot 1)).bind asBool) (sRet ((mFix tupG (mCons ((mName 2).bind fun d => M.ret (.dat d)) (mCons ((mFix tupG (mCons ((m2 gIx (mSlot 0) ((M.ret (.int 0)).bind fun d => M.ret (.dat d))).bind fun d => M.ret (.dat d)) (mCons ((M.ret (.int 0)).bind fun d => M.ret (.dat d)) (mNil)))).bind fun d => M.ret (.dat d)) (mCons ((mName 4).bind fun d => M.ret (.dat d)) (mCons ((mName 4).bind fun d => M.ret (.dat d)) (mCons ((M.ret (.int 0)).bind fun d => M.ret (.dat d)) (mCons ((m2 gIx (mSlot 0) ((M.ret (.int 1)).bind fun d => M.ret (.dat d))).bind fun d => M.ret (.dat d)) (mCons ((M.ret (.bool true)).bind fun d => M.ret (.dat d)) (mNil))))))))).bind fun d => M.ret (.sh d))) (sNext)) (sRet ((mFix tupG (mCons ((mName 2).bind fun d => M.ret (.dat d)) (mCons ((mFix tupG (mCons ((M.ret (.int 0)).bind fun d => M.ret (.dat d)) (mCons ((M.ret (.int 0)).bind fun d => M.ret (.dat d)) (mNil)))).bind fun d => M.ret (.dat d)) (mCons ((mName 4).bind fun d => M.ret (.dat d)) (mCons ((mName 4).bind fun d => M.ret (.dat d)) (mCons ((M.ret (.int 0)).bind fun d => M.ret (.dat d)) (mCons ((M.ret (.int 0)).bind fun d => M.ret (.dat d)) (mCons ((M.ret (.bool false)).bind fun d => M.ret (.dat d)) (mNil))))))))).bind fun d => M.ret (.sh d))))))
def fn_own : Fn := fnM 3 [false, false, false] m_own
-- _law_bar of k03
def m_bar : M Out := sSeq (sSet 4 (mCall fn_own (mCons ((mName 0).bind fun d => M.ret (.dat d)) (mCons ((mName 1).bind fun d => M.ret (.dat d)) (mCons ((mName 2).bind fun d => M.ret (.dat d)) (mNil)))))) (sSeq (sIf (mOr ((m2 gNe ((m2 gIx (mSlot 4) ((M.ret (.int 2)).bind fun d => M.ret (.dat d))).bind fun d => M.ret (.dat d)) (mSlot 1)).bind asBool) (mNot ((m2 gIx (mSlot 4) ((M.ret (.int 6)).bind fun d => M.ret (.dat d))).bind asBool))) (sRet ((m2 gIx (mSlot 4) ((M.ret (.int 2)).bind fun d => M.ret (.dat d))).bind fun d => M.ret (.sh d))) (sNext)) (sRet (mIf ((m2 gGt ((m2 gIx (mSlot 4) ((M.ret (.int 5)).bind fun d => M.ret (.dat d))).bind fun d => M.ret (.dat d)) (mSlot 3)).bind asBool) ((m2 gIx (mSlot 4) ((M.ret (.int 5)).bind fun d => M.ret (.dat d))).bind fun d => M.ret (.sh d)) ((M.ret .none).bind fun d => M.ret (.sh d)))))
def fn_bar : Fn := fnM 1 [false, false, false, false] m_bar
-- _law_wide of k03
def m_wide : M Out := sSeq (sSet 1 (mFix lstG (mNil))) (sSeq (sFor ((mFix tupG (mCons ((M.ret (.str "ash")).bind fun d => M.ret (.dat d)) (mCons ((M.ret (.str "b")).bind fun d => M.ret (.dat d)) (mCons ((M.ret (.str "elm")).bind fun d => M.ret (.dat d)) (mCons ((M.ret (.str "oak")).bind fun d => M.ret (.dat d)) (mNil)))))).bind seqItems) (tName 2) (sSet 1 (m2 aAdd (mSlot 1) (((mComp ((mFix tupG (mCons ((M.ret (.str "a")).bind fun d => M.ret (.dat d)) (mCons ((M.ret (.str "ann")).bind fun d => M.ret (.dat d)) (mCons ((M.ret (.str "z")).bind fun d => M.ret (.dat d)) (mNil))))).bind seqItems) (tName 6) (M.ret true) (mFix tupG (mCons ((mName 2).bind fun d => M.ret (.dat d)) (mCons ((mName 6).bind fun d => M.ret (.dat d)) (mNil)))) [6]).bind fz).bind fun d => M.ret (.dat d))))) (sSeq (sSet 3 (mFix lstG (mNil))) (sSeq (sFor (((mCall fn_twos (mCons ((mName 1).bind fun d => M.ret (.dat d)) (mNil))).bind fz).bind fun d => M.lift (enumD [d])) (tTup [tName 4, tName 5]) (sExpr (mOl 3 (mAppend 3 (mFix tupG (mCons ((mName 5).bind fun d => M.ret (.dat d)) (mCons ((mFix tupG (mCons ((M.ret (.int 3)).bind fun d => M.ret (.dat d)) (mCons (((m2 aAdd ((m2 gPow ((M.ret (.int 10)).bind fun d => M.ret (.dat d)) ((M.ret (.int 30)).bind fun d => M.ret (.dat d))).bind fun d => M.ret (.dat d)) (mSlot 4)).bind fz).bind fun d => M.ret (.dat d)) (mNil)))).bind fun d => M.ret (.dat d)) (mCons ((mName 0).bind fun d => M.ret (.dat d)) (mCons ((M.ret (.str "oak")).bind fun d => M.ret (.dat d)) (mCons ((M.ret (.int 120)).bind fun d => M.ret (.dat d)) (mCons (((m2 aAdd ((M.ret (.int 9900)).bind fun d => M.ret (.dat d)) ((m2 gMod (mSlot 4) ((M.ret (.int 50)).bind fun d => M.ret (.dat d))).bind fun d => M.ret (.dat d))).bind fz).bind fun d => M.ret (.dat d)) (mCons ((M.ret (.bool true)).bind fun d => M.ret (.dat d)) (mNil))))))))))))) (sRet ((mFix tupG (mCons ((M.ret (.int 122)).bind fun d => M.ret (.dat d)) (mCons ((M.ret (.int 9999)).bind fun d => M.ret (.dat d)) (mCons (((mL gTuple (mCons (mSlot 3) (mNil))).bind fz).bind fun d => M.ret (.dat d)) (mNil))))).bind fun d => M.ret (.sh d))))))
def fn_wide : Fn := fnM 6 [false] m_wide
-- law of k03
def m_law_2 : M Out := sSeq (sSet 1 (mCall fn_tap (mCons (mSlot 0) (mNil)))) (sSeq (sFor (mL rng1 (mCons ((M.ret (.int 4)).bind fun d => M.ret (.dat d)) (mNil))) (tName 2) (sSeq (sSet 3 (mCallO fn_towns (mCons (mSlot 1) (mCons (((m2 aAdd ((M.ret (.int 1)).bind fun d => M.ret (.dat d)) ((m2 gMod (mSlot 2) ((M.ret (.int 2)).bind fun d => M.ret (.dat d))).bind fun d => M.ret (.dat d))).bind fz).bind fun d => M.ret (.dat d)) (mNil))))) (sSeq (sSet 4 (mCall fn_twos (mCons (((m2 aAdd (((mCallO fn_seats (mCons (mSlot 1) (mCons ((mName 3).bind fun d => M.ret (.dat d)) (mCons ((M.ret (.int 4)).bind fun d => M.ret (.dat d)) (mNil))))).bind fz).bind fun d => M.ret (.dat d)) (((mFix lstG (mCons ((mFix tupG (mCons ((M.ret (.str "far")).bind fun d => M.ret (.dat d)) (mCons ((M.ret (.str "a")).bind fun d => M.ret (.dat d)) (mNil)))).bind fun d => M.ret (.dat d)) (mNil))).bind fz).bind fun d => M.ret (.dat d))).bind fz).bind fun d => M.ret (.dat d)) (mNil)))) (sSeq (sSet 5 ((m2 gIx (((mFix lstG (mCons (((mCallO fn_lot (mCons (mSlot 1) (mCons ((mName 4).bind fun d => M.ret (.dat d)) (mCons ((mName 3).bind fun d => M.ret (.dat d)) (mNil))))).bind fz).bind fun d => M.ret (.dat d)) (mCons ((mFix tupG (mCons ((M.ret (.int 0)).bind fun d => M.ret (.dat d)) (mCons ((M.ret (.int 0)).bind fun d => M.ret (.dat d)) (mCons ((mFix tupG (mNil)).bind fun d => M.ret (.dat d)) (mNil))))).bind fun d => M.ret (.dat d)) (mCons (((m2 aAdd (((mSl (((mCallO fn_lot (mCons (mSlot 1) (mCons ((mName 4).bind fun d => M.ret (.dat d)) (mCons ((mName 3).bind fun d => M.ret (.dat d)) (mNil))))).bind fz).bind fun d => M.ret (.dat d)) (M.ret none) ((M.ret (.int 2)).bind fun d => (asInt d).bind fun i => M.ret (some i))).bind fz).bind fun d => M.ret (.dat d)) ((mFix tupG (mCons ((mFix tupG (mNil)).bind fun d => M.ret (.dat d)) (mNil))).bind fun d => M.ret (.dat d))).bind fz).bind fun d => M.ret (.dat d)) (mNil))))).bind fz).bind fun d => M.ret (.dat d)) (((mCallO fn_take (mCons (mSlot 1) (mCons ((M.ret (.int 3)).bind fun d => M.ret (.dat d)) (mNil)))).bind fz).bind fun d => M.ret (.dat d))).bind fun d => M.ret (.sh d))) (sSeq (sSet 6 (mL gRepr (mCons (mSlot 5) (mNil)))) (sSeq (sFor (((m2 aAdd (mSlot 3) (((mFix lstG (mCons ((M.ret (.str "far")).bind fun d => M.ret (.dat d)) (mCons ((M.ret (.str "q")).bind fun d => M.ret (.dat d)) (mNil)))).bind fz).bind fun d => M.ret (.dat d))).bind fz).bind seqItems) (tName 7) (sFor (((mSl (mSlot 4) (M.ret none) ((M.ret (.int 6)).bind fun d => (asInt d).bind fun i => M.ret (some i))).bind fz).bind seqItems) (tName 8) (sSeq (sSet 9 (mCall fn_own (mCons ((mName 5).bind fun d => M.ret (.dat d)) (mCons ((mName 7).bind fun d => M.ret (.dat d)) (mCons ((mName 8).bind fun d => M.ret (.dat d)) (mNil)))))) (sSeq (sSet 10 (mFix lstG (mCons (((mCall fn_row_of (mCons ((mName 5).bind fun d => M.ret (.dat d)) (mCons ((mName 7).bind fun d => M.ret (.dat d)) (mCons ((mName 8).bind fun d => M.ret (.dat d)) (mNil))))).bind fz).bind fun d => M.ret (.dat d)) (mCons (((mCall fn_is_mine (mCons ((mName 5).bind fun d => M.ret (.dat d)) (mCons ((mName 7).bind fun d => M.ret (.dat d)) (mCons ((mName 8).bind fun d => M.ret (.dat d)) (mNil))))).bind fz).bind fun d => M.ret (.dat d)) (mNil))))) (sSeq (sIf ((m2 gNe (((mL gRepr (mCons (mSlot 10) (mNil))).bind fz).bind fun d => M.ret (.dat d)) (((mL gRepr (mCons (((mFix lstG (mCons ((mName 9).bind fun d => M.ret (.dat d)) (mCons ((mAndV (m2 gEq ((m2 gIx (mSlot 9) ((M.ret (.int 2)).bind fun d => M.ret (.dat d))).bind fun d => M.ret (.dat d)) (mSlot 7)) (m2 gIx (mSlot 9) ((M.ret (.int 6)).bind fun d => M.ret (.dat d)))).bind fun d => M.ret (.dat d)) (mNil)))).bind fz).bind fun d => M.ret (.dat d)) (mNil))).bind fz).bind fun d => M.ret (.dat d))).bind asBool) (sRet ((M.ret (.bool false)).bind fun d => M.ret (.sh d))) (sNext)) (sFor ((mFix tupG (mCons ((M.ret (.int 0)).bind fun d => M.ret (.dat d)) (mCons ((m2 gIx (mSlot 9) ((M.ret (.int 5)).bind fun d => M.ret (.dat d))).bind fun d => M.ret (.dat d)) (mCons (((m2 aAdd ((m2 gIx (mSlot 9) ((M.ret (.int 5)).bind fun d => M.ret (.dat d))).bind fun d => M.ret (.dat d)) ((M.ret (.int 1)).bind fun d => M.ret (.dat d))).bind fz).bind fun d => M.ret (.dat d)) (mCons (((mL gMax (mCons ((M.ret (.int 0)).bind fun d => M.ret (.dat d)) (mCons ((m2 gSub ((m2 gIx (mSlot 9) ((M.ret (.int 5)).bind fun d => M.ret (.dat d))).bind fun d => M.ret (.dat d)) ((M.ret (.int 1)).bind fun d => M.ret (.dat d))).bind fun d => M.ret (.dat d)) (mNil)))).bind fz).bind fun d => M.ret (.dat d)) (mCons (((mCallO fn_take (mCons (mSlot 1) (mCons ((M.ret (.int 40)).bind fun d => M.ret (.dat d)) (mNil)))).bind fz).bind fun d => M.ret (.dat d)) (mNil))))))).bind seqItems) (tName 11) (sIf ((m2 gNe (((mL gRepr (mCons (((mCall fn_burn_bars (mApp (mCons ((mName 5).bind fun d => M.ret (.dat d)) (mCons ((mName 7).bind fun d => M.ret (.dat d)) (mCons ((mName 8).bind fun d => M.ret (.dat d)) (mNil)))) (mCons ((mName 11).bind fun d => M.ret (.dat d)) (mNil)))).bind fz).bind fun d => M.ret (.dat d)) (mNil))).bind fz).bind fun d => M.ret (.dat d)) (((mL gRepr (mCons (((mCall fn_bar (mCons ((mName 5).bind fun d => M.ret (.dat d)) (mCons ((mName 7).bind fun d => M.ret (.dat d)) (mCons ((mName 8).bind fun d => M.ret (.dat d)) (mCons ((mName 11).bind fun d => M.ret (.dat d)) (mNil)))))).bind fz).bind fun d => M.ret (.dat d)) (mNil))).bind fz).bind fun d => M.ret (.dat d))).bind asBool) (sRet ((M.ret (.bool false)).bind fun d => M.ret (.sh d))) (sNext)))))))) (sIf ((m2 gNe (((mL gRepr (mCons (mSlot 5) (mNil))).bind fz).bind fun d => M.ret (.dat d)) (mSlot 6)).bind asBool) (sRet ((M.ret (.bool false)).bind fun d => M.ret (.sh d))) (sNext)))))))) (sSeq (sSet 5 (mCall fn_wide (mCons ((M.ret (.str "elm")).bind fun d => M.ret (.dat d)) (mNil)))) (sSeq (sFor (((m2 aAdd (((mSl ((m2 gIx (mSlot 5) ((M.ret (.int 2)).bind fun d => M.ret (.dat d))).bind fun d => M.ret (.dat d)) (M.ret none) ((M.ret (.int 2)).bind fun d => (asInt d).bind fun i => M.ret (some i))).bind fz).bind fun d => M.ret (.dat d)) (((mSl ((m2 gIx (mSlot 5) ((M.ret (.int 2)).bind fun d => M.ret (.dat d))).bind fun d => M.ret (.dat d)) (((M.ret (.int 3)).bind negD).bind fun d => (asInt d).bind fun i => M.ret (some i)) (M.ret none)).bind fz).bind fun d => M.ret (.dat d))).bind fz).bind seqItems) (tName 9) (sSeq (sSet 10 (mFix lstG (mCons (((mCall fn_row_of (mCons ((mName 5).bind fun d => M.ret (.dat d)) (mCons ((M.ret (.str "elm")).bind fun d => M.ret (.dat d)) (mCons ((m2 gIx (mSlot 9) ((M.ret (.int 0)).bind fun d => M.ret (.dat d))).bind fun d => M.ret (.dat d)) (mNil))))).bind fz).bind fun d => M.ret (.dat d)) (mCons (((mCall fn_is_mine (mCons ((mName 5).bind fun d => M.ret (.dat d)) (mCons ((M.ret (.str "elm")).bind fun d => M.ret (.dat d)) (mCons ((m2 gIx (mSlot 9) ((M.ret (.int 0)).bind fun d => M.ret (.dat d))).bind fun d => M.ret (.dat d)) (mNil))))).bind fz).bind fun d => M.ret (.dat d)) (mCons (((mCall fn_is_mine (mCons ((mName 5).bind fun d => M.ret (.dat d)) (mCons ((M.ret (.str "ash")).bind fun d => M.ret (.dat d)) (mCons ((m2 gIx (mSlot 9) ((M.ret (.int 0)).bind fun d => M.ret (.dat d))).bind fun d => M.ret (.dat d)) (mNil))))).bind fz).bind fun d => M.ret (.dat d)) (mNil)))))) (sSeq (sIf ((m2 gNe (((mL gRepr (mCons (mSlot 10) (mNil))).bind fz).bind fun d => M.ret (.dat d)) (((mL gRepr (mCons (((mFix lstG (mCons ((mName 9).bind fun d => M.ret (.dat d)) (mCons ((M.ret (.bool true)).bind fun d => M.ret (.dat d)) (mCons ((M.ret (.bool false)).bind fun d => M.ret (.dat d)) (mNil))))).bind fz).bind fun d => M.ret (.dat d)) (mNil))).bind fz).bind fun d => M.ret (.dat d))).bind asBool) (sRet ((M.ret (.bool false)).bind fun d => M.ret (.sh d))) (sNext)) (sFor ((mFix tupG (mCons ((M.ret (.int 9899)).bind fun d => M.ret (.dat d)) (mCons ((M.ret (.int 9950)).bind fun d => M.ret (.dat d)) (mCons ((m2 gIx (mSlot 9) ((M.ret (.int 5)).bind fun d => M.ret (.dat d))).bind fun d => M.ret (.dat d)) (mNil))))).bind seqItems) (tName 11) (sIf ((m2 gNe (((mL gRepr (mCons (((mCall fn_burn_bars (mApp (mCons ((mName 5).bind fun d => M.ret (.dat d)) (mCons ((M.ret (.str "elm")).bind fun d => M.ret (.dat d)) (mCons ((m2 gIx (mSlot 9) ((M.ret (.int 0)).bind fun d => M.ret (.dat d))).bind fun d => M.ret (.dat d)) (mNil)))) (mCons ((mName 11).bind fun d => M.ret (.dat d)) (mNil)))).bind fz).bind fun d => M.ret (.dat d)) (mNil))).bind fz).bind fun d => M.ret (.dat d)) (((mL gRepr (mCons (((mCall fn_bar (mCons ((mName 5).bind fun d => M.ret (.dat d)) (mCons ((M.ret (.str "elm")).bind fun d => M.ret (.dat d)) (mCons ((m2 gIx (mSlot 9) ((M.ret (.int 0)).bind fun d => M.ret (.dat d))).bind fun d => M.ret (.dat d)) (mCons ((mName 11).bind fun d => M.ret (.dat d)) (mNil)))))).bind fz).bind fun d => M.ret (.dat d)) (mNil))).bind fz).bind fun d => M.ret (.dat d))).bind asBool) (sRet ((M.ret (.bool false)).bind fun d => M.ret (.sh d))) (sNext)))))) (sRet ((M.ret (.bool true)).bind fun d => M.ret (.sh d))))))
def fn_law_2 : Fn := fnM 11 [false] m_law_2
end Lw
namespace Eg
open PySem L2 PySem.W PySem.SeqAt
theorem gGt_int (a b : Int) : gGt (.int a) (.int b) = some (.bool (decide (b < a))) := by
  simp [gGt, cmpOk, alike, isNon, small, PyData.depth, dataLt_int]
theorem gLt_int (a b : Int) : gLt (.int a) (.int b) = some (.bool (decide (a < b))) := by
  simp [gLt, cmpOk, alike, isNon, small, PyData.depth, dataLt_int]
theorem gGe_int (a b : Int) : gGe (.int a) (.int b) = some (.bool (decide (b ≤ a))) := by
  simp [gGe, cmpOk, alike, isNon, small, PyData.depth, dataLt_int]
  by_cases h : a < b
  · simp [h]
  · simp [h]
    omega
theorem gEq_int (a b : Int) : gEq (.int a) (.int b) = some (.bool (decide (a = b))) := by
  simp [gEq, small, PyData.depth, PyData.eqv]
  rfl
theorem gNe_int (a b : Int) : gNe (.int a) (.int b) = some (.bool (decide (a ≠ b))) := by
  simp [gNe, small, PyData.depth, PyData.eqv]
  rfl
theorem gMod_int {a b : Int} (h : 0 < b) : gMod (.int a) (.int b) = some (.int (a % b)) := by simp [gMod, h]
theorem gFloor_int {a b : Int} (h : 0 < b) (h2 : b < 1073741824) : gFloor (.int a) (.int b) = some (.int (a / b)) := by simp [gFloor, h, h2]
theorem gMul_int {a b : Int} (h : -(2 ^ 64) < a ∧ a < 2 ^ 64) : aMul (.int a) (.int b) = some (.sh (.int (a * b))) := by simp only [aMul]; rw [if_pos (.inl h)]
theorem gPow_int {a b : Int} (h : 0 ≤ b ∧ b ≤ 1000000 ∧ a.natAbs < 2 ^ 64) : gPow (.int a) (.int b) = some (.int (a ^ b.toNat)) := by simp only [gPow]; rw [if_pos h]
/-- the tap -/
def tapD (cells : List PyData) (spot rest calls : Int) : List (Key × PyData) := [(.inr "cells", .list cells), (.inr "spot", .int spot), (.inr "rest", .int rest), (.inr "calls", .int calls)]
section
variable (c : List PyData) (s r k : Int)
theorem tap_cells : dGet (tapD c s r k) (.inr "cells") = some (.list c) := rfl
theorem tap_spot : dGet (tapD c s r k) (.inr "spot") = some (.int s) := rfl
theorem tap_rest : dGet (tapD c s r k) (.inr "rest") = some (.int r) := rfl
theorem tap_calls : dGet (tapD c s r k) (.inr "calls") = some (.int k) := rfl
theorem put_spot (x : Int) : dPut (tapD c s r k) (.inr "spot") (.int x) = tapD c x r k := rfl
theorem put_rest (x : Int) : dPut (tapD c s r k) (.inr "rest") (.int x) = tapD c s x k := rfl
theorem put_calls (x : Int) : dPut (tapD c s r k) (.inr "calls") (.int x) = tapD c s r x := rfl
theorem tap_len : (tapD c s r k).length = 4 := rfl
end
end Eg
namespace Lw
open PySem L2 PySem.W PySem.SeqAt Eg
abbrev tapO (c : List PyData) (s r k : Int) : Option OD := some (.od (tapD c s r k))
theorem h4 : 4 < sizeLine := by decide
theorem take_rest {c : List PyData} {s r k many : Int} (h : 0 < r) (h1 : 0 < many) (h2 : many < 1073741824) : fn_take [tapO c s r k, some (.sh (.int many))] = .ok (.sh (.int (r % many))) [tapO c s (r / many) (k + 1), none] := by
  unfold fn_take m_take tapO
  simp? only [tap_calls, tap_rest, put_calls, put_rest, tap_len, aAdd, gGt_int, gMod_int h1, gFloor_int h1 h2, h4, h, decide_true]
theorem gLen_list (c : List PyData) : gLen [.list c] = some (.sh (.int c.length)) := rfl
theorem cell_at {c : List PyData} {s : Int} (hc : ∀ d ∈ c, ∃ i, d = PyData.int i) (h : 0 < (c.length : Int)) : ∃ x, gIx (.list c) (.int (s % c.length)) = some (.int x) := by
  have h1 := Int.emod_nonneg s (Int.ne_of_gt h)
  have h2 := Int.emod_lt_of_pos s h
  have e : gIx (.list c) (.int (s % c.length)) = c[(s % c.length).toNat]? := by
    show L2.atI c (s % c.length) = _
    unfold L2.atI ixN
    simp [h1, h2]
  have hl : (s % c.length).toNat < c.length := by omega
  obtain ⟨x, ex⟩ := hc c[(s % c.length).toNat] (List.getElem_mem hl)
  exact ⟨x, by rw [e, List.getElem?_eq_getElem hl, ex]⟩
/-- the least of a draw: between 0 and many -/
theorem take_ok {c : List PyData} {s r k many : Int} (hc : ∀ d ∈ c, ∃ i, d = PyData.int i) (hs : 0 ≤ s) (hk : 0 ≤ k) (hk2 : k < 1000000) (h1 : 0 < many) (h2 : many < 1073741824) :
    ∃ v s' r', 0 ≤ v ∧ v < many ∧ 0 ≤ s' ∧ fn_take [tapO c s r k, some (.sh (.int many))] = .ok (.sh (.int v)) [tapO c s' r' (k + 1), none] := by
  by_cases h : 0 < r
  · exact ⟨_, s, _, Int.emod_nonneg _ (Int.ne_of_gt h1), Int.emod_lt_of_pos _ h1, hs, take_rest h h1 h2⟩
  · have last : ∀ x : Int, ∃ v : Int, 0 ≤ v ∧ v < many ∧ (gPow (.int (x % 2147483629 + 6029 * (k + 1) + 17)) (.int 5) = some (.int ((x % 2147483629 + 6029 * (k + 1) + 17) ^ (5 : Int).toNat))) ∧
        (aMul (.int (4111 * (k + 1))) (.int (k + 1)) = some (.sh (.int (4111 * (k + 1) * (k + 1))))) ∧
        gPow (.int ((x % 2147483629 + 6029 * (k + 1) + 17) ^ (5 : Int).toNat % 2147483647 + 4111 * (k + 1) * (k + 1))) (.int 5) = some (.int (((x % 2147483629 + 6029 * (k + 1) + 17) ^ (5 : Int).toNat % 2147483647 + 4111 * (k + 1) * (k + 1)) ^ (5 : Int).toNat)) ∧
        v = ((x % 2147483629 + 6029 * (k + 1) + 17) ^ (5 : Int).toNat % 2147483647 + 4111 * (k + 1) * (k + 1)) ^ (5 : Int).toNat % 2147483587 / 32 % many := by
      intro x
      refine ⟨_, Int.emod_nonneg _ (Int.ne_of_gt h1), Int.emod_lt_of_pos _ h1, gPow_int ⟨by decide, by decide, ?_⟩, gMul_int ⟨by omega, by omega⟩, gPow_int ⟨by decide, by decide, ?_⟩, rfl⟩
      · omega
      · have b1 : 0 ≤ (k + 1) * (k + 1) := Int.mul_nonneg (by omega) (by omega)
        have b2 : (k + 1) * (k + 1) ≤ 1000000 * 1000000 := Int.mul_le_mul (by omega) (by omega) (by omega) (by omega)
        have b3 : 4111 * (k + 1) * (k + 1) = 4111 * ((k + 1) * (k + 1)) := Int.mul_assoc _ _ _
        have b4 := Int.emod_nonneg ((x % 2147483629 + 6029 * (k + 1) + 17) ^ (5 : Int).toNat) (show (2147483647 : Int) ≠ 0 by decide)
        have b5 := Int.emod_lt_of_pos ((x % 2147483629 + 6029 * (k + 1) + 17) ^ (5 : Int).toNat) (show (0 : Int) < 2147483647 by decide)
        rw [b3]
        generalize (x % 2147483629 + 6029 * (k + 1) + 17) ^ (5 : Int).toNat % 2147483647 = y at b4 b5
        generalize (k + 1) * (k + 1) = z at b1 b2
        omega
    have m1 : ∀ a : Int, gMod (.int a) (.int 2147483629) = some (.int (a % 2147483629)) := fun a => gMod_int (by decide)
    have m2' : ∀ a : Int, gMod (.int a) (.int 2147483647) = some (.int (a % 2147483647)) := fun a => gMod_int (by decide)
    have m3 : ∀ a : Int, gMod (.int a) (.int 2147483587) = some (.int (a % 2147483587)) := fun a => gMod_int (by decide)
    have m4 : ∀ a : Int, gFloor (.int a) (.int 32) = some (.int (a / 32)) := fun a => gFloor_int (by decide) (by decide)
    have m5 : ∀ a : Int, aMul (.int 6029) (.int a) = some (.sh (.int (6029 * a))) := fun a => gMul_int (by decide)
    have m6 : ∀ a : Int, aMul (.int 4111) (.int a) = some (.sh (.int (4111 * a))) := fun a => gMul_int (by decide)
    have p1 : gPow (.int 10) (.int 18) = some (.int (10 ^ (18 : Int).toNat)) := gPow_int (by decide)
    by_cases hc0 : 0 < (c.length : Int)
    · obtain ⟨x, ex⟩ := cell_at (s := s) hc hc0
      have mm := gMod_int (a := s) hc0
      obtain ⟨v, v1, v2, e1, e2, e3, ev⟩ := last x
      by_cases hb : s < (c.length : Int)
      · by_cases hx : (10 : Int) ^ (18 : Int).toNat ≤ x
        · refine ⟨x % many, s + 1, x / many, Int.emod_nonneg x (Int.ne_of_gt h1), Int.emod_lt_of_pos _ h1, by omega, ?_⟩
          unfold fn_take m_take tapO
          simp? only [tap_calls, tap_rest, tap_spot, tap_cells, put_calls, put_rest, put_spot, tap_len, aAdd, gLen_list, gGt_int, gLt_int, gGe_int, gMod_int h1, gFloor_int h1 h2, h4, h, decide_true, decide_false, hc0, ex, mm, hb, hx, p1]
        · refine ⟨v, s + 1, r, v1, v2, by omega, ?_⟩
          rw [ev]
          unfold fn_take m_take tapO
          simp? only [tap_calls, tap_rest, tap_spot, tap_cells, put_calls, put_rest, put_spot, tap_len, aAdd, gLen_list, gGt_int, gLt_int, gGe_int, gMod_int h1, h4, h, decide_true, decide_false, hc0, ex, mm, hb, hx, p1, m1, m2', m3, m4, m5, m6, e1, e2, e3]
      · refine ⟨v, s + 1, r, v1, v2, by omega, ?_⟩
        rw [ev]
        unfold fn_take m_take tapO
        simp? only [tap_calls, tap_rest, tap_spot, tap_cells, put_calls, put_rest, put_spot, tap_len, aAdd, gLen_list, gGt_int, gLt_int, gGe_int, gMod_int h1, h4, h, decide_true, decide_false, hc0, ex, mm, hb, p1, m1, m2', m3, m4, m5, m6, e1, e2, e3]
    · obtain ⟨v, v1, v2, e1, e2, e3, ev⟩ := last 11
      have hb : ¬ s < (c.length : Int) := by omega
      refine ⟨v, s + 1, r, v1, v2, by omega, ?_⟩
      rw [ev]
      unfold fn_take m_take tapO
      simp? only [tap_calls, tap_rest, tap_spot, tap_cells, put_calls, put_rest, put_spot, tap_len, aAdd, gLen_list, gGt_int, gLt_int, gGe_int, gMod_int h1, h4, h, decide_true, decide_false, hc0, hb, p1, m1, m2', m3, m4, m5, m6, e1, e2, e3]
end Lw
namespace Lw
open PySem L2 PySem.W PySem.SeqAt Eg
abbrev Hand := Str × Str
def hd (h : Hand) : PyData := .tuple [.str h.1, .str h.2]
def pd (p : Hand × Hand) : PyData := .tuple [hd p.1, hd p.2]
def dle (x y : PyData) : Bool := dataLe false id x y
theorem dle_eq (x y : PyData) : dle x y = !dataLt y x := rfl
theorem dle_total : TotalLe dle := show TotalLe (sortLe (PyProof.Rows.listOrd PyProof.Rows.itemOrd) false fun b : PyData => keyToks (id b)) from sortLe_total _ _ _
theorem toks_hd (h : Hand) : keyToks (hd h) = [.inl 1, .inr h.1.cps.toList, .inl 1, .inr h.2.cps.toList, .inl 0] := by
  simp [hd, keyToks, keyToksAll]
theorem hd_inj {h g : Hand} (e : keyToks (hd h) = keyToks (hd g)) : h = g := by
  rw [toks_hd, toks_hd] at e
  simp only [List.cons.injEq, Sum.inr.injEq, true_and, and_true] at e
  exact Prod.ext (str_of_cps e.1) (str_of_cps e.2)
theorem toks_pd (p : Hand × Hand) : keyToks (pd p) = .inl 1 :: (keyToks (hd p.1) ++ (.inl 1 :: (keyToks (hd p.2) ++ [.inl 0]))) := by
  simp [pd, keyToks, keyToksAll]
theorem pd_inj {p q : Hand × Hand} (e : keyToks (pd p) = keyToks (pd q)) : p = q := by
  rw [toks_pd, toks_pd] at e
  simp only [toks_hd, List.cons_append, List.nil_append, List.cons.injEq, Sum.inr.injEq, true_and, and_true] at e
  exact Prod.ext (Prod.ext (str_of_cps e.1) (str_of_cps e.2.1)) (Prod.ext (str_of_cps e.2.2.1) (str_of_cps e.2.2.2))
theorem toks_of_le {x y : PyData} (h1 : dle x y = true) (h2 : dle y x = true) : keyToks x = keyToks y := by
  simp only [dle_eq, Bool.not_eq_true'] at h1 h2
  exact (PyProof.Rows.listOrd PyProof.Rows.itemOrd).total _ _ h2 h1
theorem hd_alike (h g : Hand) : alike (hd h) (hd g) = true := by simp [hd, alike, alikeAll]
theorem pd_alike (p q : Hand × Hand) : alike (pd p) (pd q) = true := by simp [pd, alike, alikeAll, hd_alike]
theorem hd_small (h : Hand) : small (hd h) = true := by simp [hd, small, PyData.depth, PyData.depthAll]
theorem pd_small (p : Hand × Hand) : small (pd p) = true := by simp [pd, hd, small, PyData.depth, PyData.depthAll]
def lt (h g : Hand) : Bool := dataLt (hd h) (hd g)
theorem lt_self (h : Hand) : lt h h = false := (PyProof.Rows.listOrd PyProof.Rows.itemOrd).irrefl (keyToks (hd h))
theorem lt_tri {h g : Hand} (n : h ≠ g) (k : lt h g = false) : lt g h = true := by
  cases q : lt g h with
  | true => rfl
  | false => exact absurd (hd_inj ((PyProof.Rows.listOrd PyProof.Rows.itemOrd).total _ _ k q)) n
theorem lt_asymm {h g : Hand} (k : lt h g = true) : lt g h = false := by
  cases q : lt g h with
  | false => rfl
  | true =>
    have z := (PyProof.Rows.listOrd PyProof.Rows.itemOrd).trans (keyToks (hd h)) (keyToks (hd g)) (keyToks (hd h)) k q
    have w := (PyProof.Rows.listOrd PyProof.Rows.itemOrd).irrefl (keyToks (hd h))
    rw [w] at z; cases z
theorem lt_ne {h g : Hand} (k : lt h g = true) : h ≠ g := fun e => by subst e; rw [lt_self] at k; cases k
/-! the twos -/
def lo (h g : Hand) : Hand := if lt g h = true then g else h
def hi (h g : Hand) : Hand := if lt h g = true then g else h
def mm (h g : Hand) : Hand × Hand := (lo h g, hi h g)
theorem mm_lt {h g : Hand} (k : lt h g = true) : mm h g = (h, g) := by simp [mm, lo, hi, k, lt_asymm k]
theorem mm_comm (h g : Hand) : mm h g = mm g h := by
  by_cases e : h = g
  · rw [e]
  · cases k : lt h g with
    | true =>
      rw [mm_lt k]
      simp [mm, lo, hi, k, lt_asymm k]
    | false =>
      have k2 := lt_tri e k
      rw [mm_lt k2]
      simp [mm, lo, hi, k2, k]
def twos : List Hand → List (Hand × Hand)
  | [] => []
  | x :: xs => xs.map (mm x) ++ twos xs
def rise : List Hand → List (Hand × Hand)
  | [] => []
  | x :: xs => xs.map (fun y => (x, y)) ++ rise xs
open List in
theorem twos_perm {l m : List Hand} (p : l ~ m) : twos l ~ twos m := by
  induction p with
  | nil => exact .nil
  | cons x p ih => exact (p.map _).append ih
  | trans _ _ i1 i2 => exact i1.trans i2
  | swap x y l =>
    show mm y x :: l.map (mm y) ++ (l.map (mm x) ++ twos l) ~ mm x y :: l.map (mm x) ++ (l.map (mm y) ++ twos l)
    rw [mm_comm y x]
    refine List.Perm.cons _ ?_
    show l.map (mm y) ++ (l.map (mm x) ++ twos l) ~ l.map (mm x) ++ (l.map (mm y) ++ twos l)
    rw [← List.append_assoc, ← List.append_assoc]
    exact List.perm_append_comm.append_right _
theorem twos_rise : ∀ {l : List Hand}, l.Pairwise (fun a b => lt a b = true) → twos l = rise l
  | [], _ => rfl
  | x :: xs, h => by
    rw [List.pairwise_cons] at h
    show xs.map (mm x) ++ twos xs = xs.map (fun y => (x, y)) ++ rise xs
    rw [twos_rise h.2]
    congr 1
    exact List.map_congr_left fun y hy => mm_lt (h.1 y hy)
theorem rise_mem : ∀ {l : List Hand} {p : Hand × Hand}, l.Pairwise (fun a b => lt a b = true) → p ∈ rise l → lt p.1 p.2 = true ∧ p.1 ∈ l
  | x :: xs, p, h, hp => by
    rw [List.pairwise_cons] at h
    rcases List.mem_append.mp hp with z | z
    · obtain ⟨y, hy, rfl⟩ := List.mem_map.mp z
      exact ⟨h.1 y hy, List.mem_cons_self⟩
    · obtain ⟨a, b⟩ := rise_mem h.2 z
      exact ⟨a, List.mem_cons_of_mem _ b⟩
theorem twos_len : ∀ l : List Hand, 2 * (twos l).length + l.length = l.length * l.length
  | [] => rfl
  | x :: xs => by
    have ih := twos_len xs
    simp only [twos, List.length_append, List.length_map, List.length_cons, Nat.mul_add, Nat.add_mul]
    omega
theorem eqv_hd {h g : Hand} (e : PyData.eqv (hd h) (hd g) = true) : h = g := hd_inj ((toks_eqv _ _ (hd_alike h g)).1 e)
theorem eqv_self (h : Hand) : PyData.eqv (hd h) (hd h) = true := eqv_refl_alike _ (hd_alike h h)
theorem pd_le {p q : Hand × Hand} (h : lt p.1 q.1 = true ∨ (p.1 = q.1 ∧ lt p.2 q.2 = true)) : dle (pd p) (pd q) = true := by
  rw [dle_eq]
  unfold pd
  rw [dataLt_pair (hd_alike _ _) (hd_alike _ _)]
  rcases h with h | ⟨h1, h2⟩
  · cases k : PyData.eqv (hd q.1) (hd p.1) with
    | true => exact absurd (eqv_hd k).symm (lt_ne h)
    | false =>
      simp only [Bool.false_eq_true, if_false]
      have := lt_asymm h
      unfold lt at this
      rw [this]; rfl
  · rw [h1, eqv_self]
    simp only [if_true]
    split
    · rfl
    · have := lt_asymm h2
      unfold lt at this
      rw [this]; rfl
theorem rise_sorted : ∀ {l : List Hand}, l.Pairwise (fun a b => lt a b = true) → ((rise l).map pd).Pairwise fun a b => dle a b = true
  | [], _ => .nil
  | x :: xs, h => by
    have h' := List.pairwise_cons.mp h
    show ((xs.map (fun y => (x, y)) ++ rise xs).map pd).Pairwise _
    rw [List.map_append, List.pairwise_append]
    refine ⟨?_, rise_sorted h'.2, fun a ha b hb => ?_⟩
    · rw [List.map_map, List.pairwise_map]
      exact h'.2.imp (S := fun a b => dle (pd (x, a)) (pd (x, b)) = true) fun {a b} k => pd_le (.inr ⟨rfl, k⟩)
    · obtain ⟨p, hp, rfl⟩ := List.mem_map.mp ha
      obtain ⟨y, hy, rfl⟩ := List.mem_map.mp hp
      obtain ⟨q, hq, rfl⟩ := List.mem_map.mp hb
      exact pd_le (.inl (h'.1 q.1 (rise_mem h'.2 hq).2))
/-! sorting -/
def sortH (l : List Hand) : List Hand := l.mergeSort fun a b => dle (hd a) (hd b)
theorem sortH_map (l : List Hand) : sortD (l.map hd) = (sortH l).map hd := (List.map_mergeSort (s := dataLe false id) fun a _ b _ => rfl).symm
theorem sortH_perm (l : List Hand) : (sortH l).Perm l := List.mergeSort_perm _ _
theorem sortH_lt {l : List Hand} (h : l.Nodup) : (sortH l).Pairwise fun a b => lt a b = true := by
  have s : (sortH l).Pairwise fun a b => dle (hd a) (hd b) = true :=
    List.pairwise_mergeSort (le := fun a b => dle (hd a) (hd b)) (fun a b c h1 h2 => dle_total.trans _ _ _ h1 h2) (fun a b => by have := dle_total.total (hd a) (hd b); simpa using this) l
  have n : (sortH l).Nodup := (sortH_perm l).nodup_iff.mpr h
  refine (s.and n).imp fun {a b} ⟨h1, h2⟩ => ?_
  rw [dle_eq, Bool.not_eq_true'] at h1
  cases k : lt a b with
  | true => rfl
  | false => 
    have := lt_tri h2 k
    unfold lt at this
    rw [h1] at this; cases this
theorem sortH_eq {l m : List Hand} (p : l.Perm m) (hl : l.Nodup) : sortH l = sortH m := by
  have hm : m.Nodup := p.nodup_iff.mp hl
  refine List.Perm.eq_of_pairwise (le := fun a b => lt a b = true) (fun a b _ _ h1 h2 => ?_) (sortH_lt hl) (sortH_lt hm) (((sortH_perm l).trans p).trans (sortH_perm m).symm)
  rw [lt_asymm h1] at h2; cases h2
/-- all of them, rising -/
theorem twos_sorted {l : List Hand} (h : l.Nodup) : sortD ((twos l).map pd) = (rise (sortH l)).map pd := by
  have sl := sortH_lt h
  have pm : ((twos l).map pd).Perm ((rise (sortH l)).map pd) := by
    rw [← twos_rise sl]
    exact (twos_perm (sortH_perm l).symm).map _
  refine List.Perm.eq_of_pairwise (le := fun a b => dle a b = true) (fun a b ha hb h1 h2 => ?_) (sort_pairwise dle_total _) (rise_sorted sl) ((List.mergeSort_perm _ _).trans pm)
  obtain ⟨p, _, rfl⟩ := List.mem_map.mp ((List.mem_mergeSort).mp ha)
  obtain ⟨q, _, rfl⟩ := List.mem_map.mp hb
  rw [pd_inj (toks_of_le h1 h2)]
end Lw
namespace Lw
open PySem L2 PySem.W PySem.SeqAt Eg
/-- a tap of at most n calls -/
def TapAt (kvs : List (Key × PyData)) (n : Nat) : Prop := ∃ c s r k, kvs = tapD c s r k ∧ (∀ d ∈ c, ∃ i, d = PyData.int i) ∧ 0 ≤ s ∧ 0 ≤ k ∧ k ≤ n
theorem TapAt.mono {kvs : List (Key × PyData)} {n m : Nat} (h : TapAt kvs n) (l : n ≤ m) : TapAt kvs m := by
  obtain ⟨c, s, r, k, h1, h2, h3, h4, h5⟩ := h
  exact ⟨c, s, r, k, h1, h2, h3, h4, by omega⟩
theorem take_at {kvs : List (Key × PyData)} {n : Nat} {many : Int} (h : TapAt kvs n) (hn : n < 1000000) (h1 : 0 < many) (h2 : many < 1073741824) :
    ∃ v kvs', 0 ≤ v ∧ v < many ∧ TapAt kvs' (n + 1) ∧ fn_take [some (.od kvs), some (.sh (.int many))] = .ok (.sh (.int v)) [some (.od kvs'), none] := by
  obtain ⟨c, s, r, k, rfl, hc, hs, hk, hkn⟩ := h
  obtain ⟨v, s', r', v1, v2, hs', e⟩ := take_ok (r := r) hc hs hk (by omega) h1 h2
  exact ⟨v, _, v1, v2, ⟨c, s', r', k + 1, rfl, hc, hs', by omega, by omega⟩, e⟩
theorem tap_new (ns : List Int) : ∃ kvs, TapAt kvs 0 ∧ fn_tap [some (.sc ns)] = .ok (.od kvs) [none] := by
  refine ⟨tapD (cutD (ns.map .int) none (some 63)) 0 0 0, ⟨_, _, _, _, rfl, fun d hd => ?_, Int.le_refl _, Int.le_refl _, Int.le_refl _⟩, ?_⟩
  · obtain ⟨i, _, rfl⟩ := List.mem_map.mp (List.mem_of_mem_drop (List.mem_of_mem_take hd))
    exact ⟨i, rfl⟩
  · have g1 : ∀ d, gList [.list d] = some (.ol d) := fun _ => rfl
    unfold fn_tap m_tap
    simp? only [v_disp, v_ps0, v_ps1, v_pt63, v_scr, v_scrk, g1]
    rfl
/-! ### towns -/
def townsB : M Out := sExpr (mOl 2 (mPopAt 2 ((mCallO fn_take (mCons (mSlot 0) (mCons (((mL gLen (mCons (mSlot 2) (mNil))).bind fz).bind fun d => M.ret (.dat d)) (mNil)))).bind fz)))
def townsT : M Bool := (m2 gGt (((mL gLen (mCons (mSlot 2) (mNil))).bind fz).bind fun d => M.ret (.dat d)) (mSlot 3)).bind asBool
theorem towns_loop {many : Int} (hm : 0 ≤ many) {o1 : Option OD} : ∀ (n f : Nat) (pool : List PyData) (kvs : List (Key × PyData)) (k : Nat), pool.length ≤ n → n < f → pool.length < 100 → TapAt kvs k → k + n < 1000000 →
    ∃ pool' kvs', List.Sublist pool' pool ∧ TapAt kvs' (k + n) ∧ (many ≤ pool.length → many ≤ pool'.length) ∧ sWhile townsT townsB f [some (.od kvs), o1, some (.ol pool), some (.sh (.int many))] = .ok .nx [some (.od kvs'), o1, some (.ol pool'), some (.sh (.int many))] := by
  intro n
  induction n with
  | zero =>
    intro f pool kvs k hp hf _ ht _
    obtain ⟨f, rfl⟩ : ∃ g, f = g + 1 := ⟨f - 1, by omega⟩
    have e0 : ¬ many < (pool.length : Int) := by omega
    refine ⟨pool, kvs, List.Sublist.refl _, ht, fun h => h, ?_⟩
    rw [v_wh]
    unfold townsT
    simp? only [gLen_list, gGt_int, e0, decide_false]
  | succ n ih =>
    intro f pool kvs k hp hf h100 ht hk
    obtain ⟨f, rfl⟩ : ∃ g, f = g + 1 := ⟨f - 1, by omega⟩
    by_cases e0 : many < (pool.length : Int)
    · obtain ⟨v, kvs1, v0, v1, t1, e1⟩ := take_at ht (by omega) (show (0 : Int) < (pool.length : Int) by omega) (by omega)
      obtain ⟨y, ey, ep⟩ := v_popk (i := 2) (xs := pool) v0 v1 (by omega)
      have lt1 : v.toNat < pool.length := by omega
      obtain ⟨pool', kvs', s1, t2, lm, e2⟩ := ih f (pool.eraseIdx v.toNat) kvs1 (k + 1) (by rw [List.length_eraseIdx_of_lt lt1]; omega) (by omega) (by rw [List.length_eraseIdx_of_lt lt1]; omega) t1 (by omega)
      refine ⟨pool', kvs', s1.trans (List.eraseIdx_sublist _ _), t2.mono (by omega), fun _ => lm (by rw [List.length_eraseIdx_of_lt lt1]; omega), ?_⟩
      rw [v_wh]
      have tt : townsT [some (.od kvs), o1, some (.ol pool), some (.sh (.int many))] = .ok true [some (.od kvs), o1, some (.ol pool), some (.sh (.int many))] := by
        unfold townsT
        simp? only [gLen_list, gGt_int, e0, decide_true]
      have bb : townsB [some (.od kvs), o1, some (.ol pool), some (.sh (.int many))] = .ok .nx [some (.od kvs1), o1, some (.ol (pool.eraseIdx v.toNat)), some (.sh (.int many))] := by
        unfold townsB
        simp? only [gLen_list, v_pop, e1, ep]
      rw [tt]
      simp? only [bb, v_whn]
      exact e2
    · refine ⟨pool, kvs, List.Sublist.refl _, ht.mono (by omega), fun h => h, ?_⟩
      rw [v_wh]
      unfold townsT
      simp? only [gLen_list, gGt_int, e0, decide_false]
def five : List Str := ["ash", "b", "elm", "oak", "zzzzzzzz"]
theorem gMin_int (a b : Int) : gMin [.int a, .int b] = some (.sh (.int (if b < a then b else a))) := by
  simp [gMin, pairOk, alike, Eg.isNon, small, PyData.depth, isLst, dataLt_int]
  split <;> rfl
theorem towns_ok {kvs : List (Key × PyData)} {k : Nat} {least : Int} (h : TapAt kvs k) (hk : k < 90000) (hl : 0 ≤ least) : ∃ (ts : List Str) (kvs' : List (Key × PyData)), List.Sublist ts five ∧ (1 ≤ least → 1 ≤ ts.length) ∧ TapAt kvs' (k + 10) ∧
    fn_towns [some (.od kvs), some (.sh (.int least))] = .ok (.ol (ts.map .str)) [some (.od kvs'), none] := by
  obtain ⟨v, kvs1, v0, v1, t1, e1⟩ := take_at h (by omega) (show (0 : Int) < 3 by decide) (by decide)
  have hm : 0 ≤ (if least + v < 4 then least + v else 4) := by split <;> omega
  obtain ⟨pool', kvs', s1, t2, lm, e2⟩ := towns_loop hm (o1 := some (.sh (.int least))) 5 100 (five.map .str) kvs1 (k + 1) (by decide) (by decide) (by decide) t1 (by omega)
  obtain ⟨ts, hts, rfl⟩ := List.sublist_map_iff.mp s1
  refine ⟨ts, kvs', hts, fun h1 => ?_, t2.mono (by omega), ?_⟩
  · simp only [List.length_map] at lm
    have h5 : (five.length : Int) = 5 := rfl
    have l5 : (if least + v < 4 then least + v else 4) ≤ (five.length : Int) := by rw [h5]; split <;> omega
    have := lm l5
    split at this <;> omega
  have l5 : ∀ a b c d e : PyData, lstG [a, b, c, d, e] = some (.ol [a, b, c, d, e]) := fun _ _ _ _ _ => if_pos (show 5 ≤ sizeLine by decide)
  unfold fn_towns m_towns
  simp? only [l5, e1, aAdd, gMin_int]
  have e2' := e2
  unfold townsT townsB five at e2'
  simp only [List.map_cons, List.map_nil] at e2'
  rw [e2']
  simp? only []
/-! ### seats -/
def words : List Str := ["a", "ann", "z"]
def allOf (ts : List Str) : List Hand := ts.flatMap fun p => words.map fun w => (p, w)
theorem lg3 (a b c : PyData) : lstG [a, b, c] = some (.ol [a, b, c]) := if_pos (show 3 ≤ sizeLine by decide)
theorem tg2 (a b : PyData) : tupG [a, b] = some (.tuple [a, b]) := if_pos (show 2 ≤ sizeLine by decide)
def seatsB : M Out := (sSet 3 (m2 aAdd (mSlot 3) (((mComp (((mFix lstG (mCons ((M.ret (.str "a")).bind fun d => M.ret (.dat d)) (mCons ((M.ret (.str "ann")).bind fun d => M.ret (.dat d)) (mCons ((M.ret (.str "z")).bind fun d => M.ret (.dat d)) (mNil))))).bind fz).bind seqItems) (tName 7) (M.ret true) (mFix tupG (mCons ((mName 5).bind fun d => M.ret (.dat d)) (mCons ((mName 7).bind fun d => M.ret (.dat d)) (mNil)))) [7]).bind fz).bind fun d => M.ret (.dat d))))
theorem seats_one {o0 o1 o2 o4 o6 o7 : Option OD} {acc : List Hand} {p : Str} (hl : acc.length ≤ 1000) : seatsB [o0, o1, o2, some (.ol (acc.map hd)), o4, some (.sh (.str p)), o6, o7] =
    .ok .nx [o0, o1, o2, some (.ol ((acc ++ words.map fun w => (p, w)).map hd)), o4, some (.sh (.str p)), o6, o7] := by
  have cs : ∀ (a b c : PyData), lcGo (tName 7) (M.ret true) (mFix tupG (mCons ((mName 5).bind fun d => M.ret (.dat d)) (mCons ((mName 7).bind fun d => M.ret (.dat d)) (mNil)))) [7] [a, b, c] [] [o0, o1, o2, some (.ol (acc.map hd)), o4, some (.sh (.str p)), o6, o7] =
      .ok [.tuple [.str p, a], .tuple [.str p, b], .tuple [.str p, c]] [o0, o1, o2, some (.ol (acc.map hd)), o4, some (.sh (.str p)), o6, some (.sh c)] := by
    intro a b c
    have z0 : 0 < sizeLine := by decide
    have z1 : 1 < sizeLine := by decide
    have z2 : 2 < sizeLine := by decide
    simp only [lcGo, v_wp0, v_wp1, List.set_cons_zero, List.set_cons_succ, v_tn, v_ret]
    simp? only [tg2, List.length_nil, List.length_cons, z0, z1, z2]
  have ad : ∀ b : List PyData, b.length = 3 → aAdd (.list (acc.map hd)) (.list b) = some (.ol (acc.map hd ++ b)) := fun b hb => if_pos (by rw [List.length_map, hb]; have := sizeLine_eq; omega)
  have rr : ∀ x y : Option OD, restR [o0, o1, o2, some (.ol (acc.map hd)), o4, some (.sh (.str p)), o6, x] [o0, o1, o2, some (.ol (acc.map hd)), o4, some (.sh (.str p)), o6, y] [7] = [o0, o1, o2, some (.ol (acc.map hd)), o4, some (.sh (.str p)), o6, x] := fun x y => rfl
  unfold seatsB
  simp? only [v_comp, lg3, cs, v_cpk, List.length_cons, List.length_nil, rr, ad]
  rw [List.map_append]
  rfl
theorem seats_first {o0 o1 o2 o4 o6 o7 : Option OD} : ∀ (ts : List Str) (acc : List Hand) (o5 : Option OD), acc.length + 3 * ts.length ≤ 1000 → ∃ o5', sLoop (tName 5) seatsB (ts.map .str) [o0, o1, o2, some (.ol (acc.map hd)), o4, o5, o6, o7] =
    .ok .nx [o0, o1, o2, some (.ol ((acc ++ allOf ts).map hd)), o4, o5', o6, o7]
  | [], acc, o5, _ => ⟨o5, by rw [List.map_nil, v_lp0]; simp [allOf]⟩
  | p :: ts, acc, o5, h => by
    rw [List.length_cons] at h
    obtain ⟨o5', e⟩ := seats_first (o0 := o0) (o1 := o1) (o2 := o2) (o4 := o4) (o6 := o6) (o7 := o7) ts (acc ++ words.map fun w => (p, w)) (some (.sh (.str p))) (by rw [List.length_append]; simp [words]; omega)
    refine ⟨o5', ?_⟩
    rw [List.map_cons, v_lp1]
    simp? only []
    rw [seats_one (by omega), v_lpn, e]
    simp [allOf, List.append_assoc]
def seatsC : M Out := (sExpr (mOl 4 (mAppend 4 (mOl 3 (mPopAt 3 ((mCallO fn_take (mCons (mSlot 0) (mCons (((mL gLen (mCons (mSlot 3) (mNil))).bind fz).bind fun d => M.ret (.dat d)) (mNil)))).bind fz))))))
open List in
theorem erase_perm {α : Type} : ∀ (l : List α) (i : Nat) (h : i < l.length), [l[i]] ++ l.eraseIdx i ~ l
  | x :: l, 0, _ => .refl _
  | x :: l, i + 1, h => by
    have ih := erase_perm l i (by simpa using h)
    show (x :: l)[i + 1] :: x :: l.eraseIdx i ~ x :: l
    exact (List.Perm.swap _ _ _).trans (ih.cons x)
theorem erase_map {α β : Type} (f : α → β) : ∀ (l : List α) (i : Nat), (l.map f).eraseIdx i = (l.eraseIdx i).map f
  | [], _ => by simp
  | x :: l, 0 => rfl
  | x :: l, i + 1 => by
    show f x :: (l.map f).eraseIdx i = f x :: (l.eraseIdx i).map f
    rw [erase_map f l i]
open List in
theorem seats_second {o1 o2 o5 o7 : Option OD} : ∀ (is : List Int) (pool found : List Hand) (kvs : List (Key × PyData)) (k : Nat) (o6 : Option OD), is.length ≤ pool.length → pool.length + found.length ≤ 1000 → TapAt kvs k → k + is.length < 100000 →
    ∃ pool' found' kvs' o6', found' ++ pool' ~ found ++ pool ∧ found'.length = found.length + is.length ∧ TapAt kvs' (k + is.length) ∧
      sLoop (tName 6) seatsC (is.map .int) [some (.od kvs), o1, o2, some (.ol (pool.map hd)), some (.ol (found.map hd)), o5, o6, o7] = .ok .nx [some (.od kvs'), o1, o2, some (.ol (pool'.map hd)), some (.ol (found'.map hd)), o5, o6', o7]
  | [], pool, found, kvs, k, o6, _, _, ht, _ => ⟨pool, found, kvs, o6, .refl _, rfl, ht, rfl⟩
  | i :: is, pool, found, kvs, k, o6, hl, hl2, ht, hk => by
    rw [List.length_cons] at hl hk
    obtain ⟨v, kvs1, v0, v1, t1, e1⟩ := take_at ht (by omega) (show (0 : Int) < (pool.length : Int) by omega) (by omega)
    have v1' : v < ((pool.map hd).length : Int) := by rw [List.length_map]; exact v1
    obtain ⟨y, ey, ep⟩ := v_popk (i := 3) v0 v1' (by rw [List.length_map]; omega)
    have lt1 : v.toNat < pool.length := by omega
    have ey2 : y = hd pool[v.toNat] := by
      rw [List.getElem?_map, List.getElem?_eq_getElem lt1] at ey
      exact (Option.some.inj ey).symm
    have len1 := List.length_eraseIdx_of_lt lt1
    obtain ⟨pool', found', kvs', o6', p, q, t2, e2⟩ := seats_second is (pool.eraseIdx v.toNat) (found ++ [pool[v.toNat]]) kvs1 (k + 1) (some (.sh (.int i))) (by omega) (by rw [len1, List.length_append, List.length_singleton]; omega) t1 (by omega)
    refine ⟨pool', found', kvs', o6', p.trans ?_, by rw [q]; simp; omega, t2.mono (by rw [List.length_cons]; omega), ?_⟩
    · rw [List.append_assoc]
      refine List.Perm.append_left _ ?_
      exact erase_perm pool _ lt1
    · have app : (found.map hd).length < sizeLine := by rw [List.length_map]; have := sizeLine_eq; omega
      have glen : gLen [.list (pool.map hd)] = some (.sh (.int pool.length)) := by rw [gLen_list, List.length_map]
      have bb : seatsC [some (.od kvs), o1, o2, some (.ol (pool.map hd)), some (.ol (found.map hd)), o5, some (.sh (.int i)), o7] = .ok .nx [some (.od kvs1), o1, o2, some (.ol ((pool.map hd).eraseIdx v.toNat)), some (.ol (found.map hd ++ [y])), o5, some (.sh (.int i)), o7] := by
        unfold seatsC
        simp? only [glen, v_pop, e1, ep, app]
      rw [List.map_cons, v_lp1]
      simp? only []
      rw [bb, v_lpn]
      have m1 : (pool.map hd).eraseIdx v.toNat = (pool.eraseIdx v.toNat).map hd := erase_map hd pool _
      have m2 : found.map hd ++ [y] = (found ++ [pool[v.toNat]]).map hd := by rw [ey2, List.map_append]; rfl
      rw [m1, m2, e2]
theorem gLen_any (l : List PyData) : gLen [.list l] = some (.sh (.int l.length)) := rfl
open List in
/-- so many unlike hands of these towns -/
theorem seats_ok {kvs : List (Key × PyData)} {k : Nat} {ts : List Str} {many : Int} (h : TapAt kvs k) (hk : k < 90000) (ht : ts.length ≤ 5) (hm : 0 ≤ many) : ∃ (found rest : List Hand) (kvs' : List (Key × PyData)), found ++ rest ~ allOf ts ∧ found.length ≤ many.toNat ∧ TapAt kvs' (k + 100) ∧
    fn_seats [some (.od kvs), some (.sh (.list (ts.map .str))), some (.sh (.int many))] = .ok (.ol (found.map hd)) [some (.od kvs'), none, none] := by
  have al : ∀ l : List Str, (allOf l).length = 3 * l.length := fun l => by
    induction l with
    | nil => rfl
    | cons x l ih =>
      have : allOf (x :: l) = (words.map fun w => (x, w)) ++ allOf l := rfl
      rw [this, List.length_append, ih, List.length_map, List.length_cons]
      simp [words]; omega
  have al5 := al ts
  let m : Int := if (allOf ts).length < many then ((allOf ts).length : Int) else many
  have m0 : 0 ≤ m := by show 0 ≤ ite _ _ _; split <;> omega
  have m1 : m.toNat ≤ (allOf ts).length := by show (ite _ _ _ : Int).toNat ≤ _; split <;> omega
  have m2 : m.toNat ≤ many.toNat := by show (ite _ _ _ : Int).toNat ≤ _; split <;> omega
  obtain ⟨o5', e1⟩ := seats_first (o0 := some (.od kvs)) (o1 := some (.sh (.list (ts.map .str)))) (o2 := some (.sh (.int many))) (o4 := some (.ol [])) (o6 := none) (o7 := none) ts [] none (by rw [List.length_nil]; omega)
  obtain ⟨pool', found', kvs', o6', p, q, t2, e2⟩ := seats_second (o1 := some (.sh (.list (ts.map .str)))) (o2 := some (.sh (.int many))) (o5 := o5') (o7 := none) ((List.range m.toNat).map fun (j : Nat) => (0 + (j : Int))) (allOf ts) [] kvs k none (by rw [List.length_map, List.length_range]; exact m1) (by rw [List.length_nil]; omega) h (by rw [List.length_map, List.length_range]; omega)
  rw [List.length_map, List.length_range] at q t2
  refine ⟨found', pool', kvs', p, by rw [q, List.length_nil]; omega, t2.mono (by omega), ?_⟩
  have rg : rng1 [.int m] = some (rngD 0 m.toNat) := if_pos ⟨by omega, by omega⟩
  have rd : rngD 0 m.toNat = ((List.range m.toNat).map fun (j : Nat) => (0 + (j : Int))).map PyData.int := by unfold rngD; rw [List.map_map]; rfl
  have gm : gMin [.int many, .int ((allOf ts).map hd).length] = some (.sh (.int m)) := by rw [gMin_int, List.length_map]
  have l0 : lstG [] = some (.ol []) := if_pos (Nat.zero_le _)
  unfold fn_seats m_seats
  simp? only [l0]
  have e1' := e1
  rw [List.nil_append] at e1'
  unfold seatsB at e1'
  simp only [List.map_nil] at e1'
  rw [e1']
  simp? only [gLen_any, gm, rg]
  rw [rd]
  have e2' := e2
  unfold seatsC at e2'
  simp only [List.map_nil] at e2'
  rw [e2']
  simp? only []
end Lw
namespace Lw
open PySem L2 PySem.W PySem.SeqAt Eg
theorem sortOk_hd (l : List Hand) (h : l.length ≤ 1000) : sortOk (l.map hd) = true := by
  have z := sizeLine_eq
  simp only [sortOk, alikeB, Bool.and_eq_true, Bool.or_eq_true, List.all_eq_true, decide_eq_true_eq, List.mem_map, forall_exists_index, and_imp, forall_apply_eq_imp_iff₂, List.length_map]
  exact ⟨⟨⟨fun a _ b _ => hd_alike a b, .inl fun a _ => rfl⟩, fun a _ => hd_small a⟩, by omega⟩
theorem sortOk_pd (l : List (Hand × Hand)) (h : l.length ≤ 1000) : sortOk (l.map pd) = true := by
  have z := sizeLine_eq
  simp only [sortOk, alikeB, Bool.and_eq_true, Bool.or_eq_true, List.all_eq_true, decide_eq_true_eq, List.mem_map, forall_exists_index, and_imp, forall_apply_eq_imp_iff₂, List.length_map]
  exact ⟨⟨⟨fun a _ b _ => pd_alike a b, .inl fun a _ => rfl⟩, fun a _ => pd_small a⟩, by omega⟩
theorem pairOk_hd (h g : Hand) : pairOk (hd h) (hd g) = true := by
  unfold pairOk
  rw [hd_alike, hd_alike, hd_alike, hd_alike, hd_small, hd_small]
  rfl
theorem gMin_hd (h g : Hand) : gMin [hd h, hd g] = some (.sh (hd (lo h g))) := by
  have e : (if dataLt (hd g) (hd h) = true then hd g else hd h) = hd (lo h g) := by
    show (if lt g h = true then hd g else hd h) = hd (if lt g h = true then g else h)
    split <;> rfl
  show (if pairOk (hd h) (hd g) = true ∧ isLst (hd h) = false ∧ isLst (hd g) = false then some (OD.sh (if dataLt (hd g) (hd h) = true then hd g else hd h)) else none) = _
  rw [if_pos ⟨pairOk_hd h g, rfl, rfl⟩, e]
theorem gMax_hd (h g : Hand) : gMax [hd h, hd g] = some (.sh (hd (hi h g))) := by
  have e : (if dataLt (hd h) (hd g) = true then hd g else hd h) = hd (hi h g) := by
    show (if lt h g = true then hd g else hd h) = hd (if lt h g = true then g else h)
    split <;> rfl
  show (if pairOk (hd h) (hd g) = true ∧ isLst (hd h) = false ∧ isLst (hd g) = false then some (OD.sh (if dataLt (hd h) (hd g) = true then hd g else hd h)) else none) = _
  rw [if_pos ⟨pairOk_hd h g, rfl, rfl⟩, e]
theorem gIx_hd {l : List Hand} {j : Nat} (h : j < l.length) : gIx (.list (l.map hd)) (.int (j : Int)) = some (hd l[j]) := by
  show L2.atI (l.map hd) (j : Int) = _
  unfold L2.atI ixN
  have h0 : (0 : Int) ≤ (j : Int) := by omega
  have h1 : (j : Int) < (l.length : Int) := by omega
  simp [h0, h1, List.getElem?_eq_getElem h]
theorem cut_from (ds : List PyData) (j : Nat) : cutD ds (some ((j : Int) + 1)) none = ds.drop (j + 1) := by
  have e : HT.sIx ds.length 0 (some ((j : Int) + 1)) = min (j + 1) ds.length := by
    have := HT.sIx_nat ds.length 0 (j + 1)
    simpa using this
  unfold cutD
  rw [e, HT.sIx_none]
  by_cases h : j + 1 ≤ ds.length
  · rw [Nat.min_eq_left h, List.take_of_length_le]
    rw [List.length_drop]
    omega
  · have d1 : ds.drop (j + 1) = [] := List.drop_eq_nil_of_le (by omega)
    have d2 : ds.drop ds.length = [] := List.drop_eq_nil_of_le (Nat.le_refl _)
    rw [Nat.min_eq_right (by omega), d1, d2, List.take_nil]
/-! ### twos -/
def twosE : M PyData := (mFix tupG (mCons (((mL gMin (mCons ((m2 gIx (mSlot 0) (mSlot 2)).bind fun d => M.ret (.dat d)) (mCons (mSlot 3) (mNil)))).bind fz).bind fun d => M.ret (.dat d)) (mCons (((mL gMax (mCons ((m2 gIx (mSlot 0) (mSlot 2)).bind fun d => M.ret (.dat d)) (mCons (mSlot 3) (mNil)))).bind fz).bind fun d => M.ret (.dat d)) (mNil))))
def twosB : M Out := (sSet 1 (m2 aAdd (mSlot 1) (((mComp (((mSl (mSlot 0) (((m2 aAdd (mSlot 2) ((M.ret (.int 1)).bind fun d => M.ret (.dat d))).bind fz).bind fun d => (asInt d).bind fun i => M.ret (some i)) (M.ret none)).bind fz).bind seqItems) (tName 3) (M.ret true) twosE [3]).bind fz).bind fun d => M.ret (.dat d))))
theorem twos_one {l : List Hand} {acc : List (Hand × Hand)} {j : Nat} {o3 : Option OD} (hj : j < l.length) (hl : l.length ≤ 100) (ha : acc.length ≤ 100000) :
    twosB [some (.sh (.list (l.map hd))), some (.ol (acc.map pd)), some (.sh (.int (j : Int))), o3] = .ok .nx [some (.sh (.list (l.map hd))), some (.ol ((acc ++ (l.drop (j + 1)).map (mm l[j])).map pd)), some (.sh (.int (j : Int))), o3] := by
  have gx := gIx_hd hj
  have z := sizeLine_eq
  obtain ⟨ρ', ⟨o3', hρ⟩, e⟩ := lc_map (t := tName 3) (me := twosE) (vs := [3]) (Inv := fun ρ => ∃ o, ρ = [some (.sh (.list (l.map hd))), some (.ol (acc.map pd)), some (.sh (.int (j : Int))), o])
    (fun d => .tuple [if dataLt d (hd l[j]) = true then d else hd l[j], if dataLt (hd l[j]) d = true then d else hd l[j]]) ((l.drop (j + 1)).map hd) [] [some (.sh (.list (l.map hd))), some (.ol (acc.map pd)), some (.sh (.int (j : Int))), o3] ⟨o3, rfl⟩
    (by rw [List.length_nil, List.length_map, List.length_drop]; omega) (fun x hx ρ ⟨o, hρ⟩ => by
      obtain ⟨y, hy, rfl⟩ := List.mem_map.mp hx
      subst hρ
      refine ⟨[some (.sh (.list (l.map hd))), some (.ol (acc.map pd)), some (.sh (.int (j : Int))), some (.sh (hd y))], [some (.sh (.list (l.map hd))), some (.ol (acc.map pd)), some (.sh (.int (j : Int))), some (.sh (hd y))], rfl, ?_, ⟨_, rfl⟩⟩
      have g1 := gMin_hd l[j] y
      have g2 := gMax_hd l[j] y
      have e1 : hd (lo l[j] y) = if dataLt (hd y) (hd l[j]) = true then hd y else hd l[j] := by
        show hd (if lt y l[j] = true then y else l[j]) = if lt y l[j] = true then hd y else hd l[j]
        split <;> rfl
      have e2 : hd (hi l[j] y) = if dataLt (hd l[j]) (hd y) = true then hd y else hd l[j] := by
        show hd (if lt l[j] y = true then y else l[j]) = if lt l[j] y = true then hd y else hd l[j]
        split <;> rfl
      unfold twosE
      simp? only [gx, g1, g2, tg2]
      rw [e1, e2])
  subst hρ
  have em : ((l.drop (j + 1)).map hd).map (fun d => PyData.tuple [if dataLt d (hd l[j]) = true then d else hd l[j], if dataLt (hd l[j]) d = true then d else hd l[j]]) = ((l.drop (j + 1)).map (mm l[j])).map pd := by
    rw [List.map_map, List.map_map]
    refine List.map_congr_left fun y _ => ?_
    show PyData.tuple [if lt y l[j] = true then hd y else hd l[j], if lt l[j] y = true then hd y else hd l[j]] = PyData.tuple [hd (if lt y l[j] = true then y else l[j]), hd (if lt l[j] y = true then y else l[j])]
    congr 2
    · split <;> rfl
    · congr 1
      split <;> rfl
  rw [em, List.nil_append] at e
  have gs : gSl (.list (l.map hd)) (some ((j : Int) + 1)) none = some (.ol ((l.drop (j + 1)).map hd)) := by
    show some (OD.ol (cutD _ _ _)) = _
    rw [cut_from, List.map_drop]
  have ad : aAdd (.list (acc.map pd)) (.list (((l.drop (j + 1)).map (mm l[j])).map pd)) = some (.ol (acc.map pd ++ ((l.drop (j + 1)).map (mm l[j])).map pd)) := if_pos (by
    rw [List.length_map, List.length_map, List.length_map, List.length_drop]; omega)
  have a1 : aAdd (.int (j : Int)) (.int 1) = some (.sh (.int ((j : Int) + 1))) := rfl
  have rr : ∀ x y : Option OD, restR [some (.sh (.list (l.map hd))), some (.ol (acc.map pd)), some (.sh (.int (j : Int))), x] [some (.sh (.list (l.map hd))), some (.ol (acc.map pd)), some (.sh (.int (j : Int))), y] [3] = [some (.sh (.list (l.map hd))), some (.ol (acc.map pd)), some (.sh (.int (j : Int))), x] := fun x y => rfl
  unfold twosB
  simp? only [v_comp, v_sl, a1, gs, e, v_cpk, List.length_cons, List.length_nil, rr, ad]
  rw [List.map_append]
theorem twos_loop {l : List Hand} (hl : l.length ≤ 100) : ∀ (n j : Nat) (acc : List (Hand × Hand)) (o2 o3 : Option OD), j + n = l.length → acc.length + n * 100 ≤ 100000 → ∃ o2', sLoop (tName 2) twosB ((List.range' j n).map fun (i : Nat) => .int (i : Int)) [some (.sh (.list (l.map hd))), some (.ol (acc.map pd)), o2, o3] =
    .ok .nx [some (.sh (.list (l.map hd))), some (.ol ((acc ++ twos (l.drop j)).map pd)), o2', o3]
  | 0, j, acc, o2, o3, h, _ => ⟨o2, by
    rw [List.drop_eq_nil_of_le (by omega)]
    show Res.ok _ _ = _
    rw [show twos [] = [] from rfl, List.append_nil]⟩
  | n + 1, j, acc, o2, o3, h, ha => by
    have hj : j < l.length := by omega
    obtain ⟨o2', e⟩ := twos_loop hl n (j + 1) (acc ++ (l.drop (j + 1)).map (mm l[j])) (some (.sh (.int (j : Int)))) o3 (by omega) (by rw [List.length_append, List.length_map, List.length_drop]; omega)
    refine ⟨o2', ?_⟩
    rw [List.range'_succ, List.map_cons, v_lp1]
    simp? only []
    rw [twos_one hj hl (by omega), v_lpn, e, List.drop_eq_getElem_cons hj]
    show Res.ok _ _ = Res.ok Out.nx [_, some (OD.ol ((acc ++ ((l.drop (j + 1)).map (mm l[j]) ++ twos (l.drop (j + 1)))).map pd)), _, _]
    rw [List.append_assoc]
theorem rng1_nat (n : Nat) (h : n < 1000) : rng1 [.int (n : Int)] = some ((List.range' 0 n).map fun (i : Nat) => .int (i : Int)) := by
  have e : rng1 [.int (n : Int)] = some (rngD 0 (n : Int).toNat) := by
    simp only [rng1]
    rw [if_pos]
    constructor <;> omega
  have e2 : rngD 0 (n : Int).toNat = (List.range' 0 n).map fun (i : Nat) => PyData.int (i : Int) := by
    unfold rngD
    rw [Int.toNat_natCast, List.range_eq_range']
    exact List.map_congr_left fun i _ => congrArg PyData.int (Int.zero_add _)
  rw [e, e2]
end Lw
namespace Lw
open PySem L2 PySem.W PySem.SeqAt Eg
theorem gSorted_pd {l : List Hand} (hn : l.Nodup) (h : (twos l).length ≤ 1000) : gSorted [.list ((twos l).map pd)] = some (.ol ((rise (sortH l)).map pd)) := by
  have z := sortOk_pd _ h
  rw [← twos_sorted hn]
  simp only [gSorted]
  rw [if_pos z]
theorem twos_ok {l : List Hand} (hl : l.length ≤ 20) (hn : l.Nodup) : fn_twos [some (.sh (.list (l.map hd)))] = .ok (.ol ((rise (sortH l)).map pd)) [none] := by
  obtain ⟨o2', e⟩ := twos_loop (l := l) (by omega) l.length 0 [] none none (by omega) (by rw [List.length_nil]; omega)
  have tl := twos_len l
  have tl2 : l.length * l.length ≤ 20 * 20 := Nat.mul_le_mul hl hl
  have t3 : (twos l).length ≤ 1000 := by omega
  have gl : gLen [.list (l.map hd)] = some (.sh (.int l.length)) := by rw [gLen_any, List.length_map]
  have rg := rng1_nat l.length (by omega)
  have gs := gSorted_pd hn t3
  have l0 : lstG [] = some (.ol []) := if_pos (Nat.zero_le _)
  rw [List.drop_zero, List.nil_append] at e
  unfold fn_twos m_twos
  simp? only [l0, gl, rg]
  have e' := e
  unfold twosB twosE at e'
  rw [List.map_nil] at e'
  rw [e']
  simp? only [gs]
end Lw
namespace Lw
open PySem L2 PySem.W PySem.SeqAt Eg
structure Row where
  p : Hand × Hand
  a : Int
  b : Int
  place : Str
  giver : Str
  u : Int
  free : Int
  here : Bool
def rd (r : Row) : PyData := .tuple [pd r.p, .tuple [.int r.a, .int r.b], .str r.place, .str r.giver, .int r.u, .int r.free, .bool r.here]
structure Lot where
  turn : Int
  floor : Int
  rows : List Row
def lotD (l : Lot) : PyData := .tuple [.int l.turn, .int l.floor, .tuple (l.rows.map rd)]
/-- the row among the rows, else the one by the home -/
def ownRow (l : Lot) (town : Str) (p : Hand × Hand) : Row := match l.rows.find? fun r => decide (r.p = p) with
  | some r => r
  | none => if town = p.2.1 then ⟨p, l.turn, 0, p.2.1, p.2.1, 0, l.floor, true⟩ else ⟨p, 0, 0, p.2.1, p.2.1, 0, 0, false⟩
def mine (r : Row) (town : Str) : Bool := decide (r.place = town) && r.here
def barD (r : Row) (town : Str) (day : Int) : PyData := if mine r town = true then (if day < r.free then .int r.free else .none) else .str r.place
theorem eqv_pd (p q : Hand × Hand) : PyData.eqv (pd p) (pd q) = decide (p = q) := by
  by_cases h : p = q
  · subst h
    simp only [decide_true]
    exact eqv_refl_alike _ (pd_alike p p)
  · rw [decide_eq_false h]
    cases k : PyData.eqv (pd p) (pd q) with
    | false => rfl
    | true => exact absurd (pd_inj ((toks_eqv _ _ (pd_alike p q)).1 k)) h
theorem gEq_pd (p q : Hand × Hand) : gEq (pd p) (pd q) = some (.bool (decide (p = q))) := by
  unfold gEq
  rw [if_pos (pd_small p), eqv_pd]
theorem str_alike (x y : Str) : alike (.str x) (.str y) = true := by simp [alike]
theorem eqv_str (x y : Str) : PyData.eqv (.str x) (.str y) = decide (x = y) := by
  by_cases h : x = y
  · subst h
    simp only [decide_true]
    exact eqv_refl_alike _ (str_alike x x)
  · rw [decide_eq_false h]
    cases k : PyData.eqv (.str x) (.str y) with
    | false => rfl
    | true =>
      have e := (toks_eqv _ _ (str_alike x y)).1 k
      simp only [keyToks, List.cons.injEq, Sum.inr.injEq, and_true] at e
      exact absurd (str_of_cps e) h
theorem small_str (x : Str) : small (.str x) = true := by simp [small, PyData.depth]
theorem gEq_str2 (x y : Str) : gEq (.str x) (.str y) = some (.bool (decide (x = y))) := by
  unfold gEq
  rw [if_pos (small_str x), eqv_str]
theorem gNe_str2 (x y : Str) : gNe (.str x) (.str y) = some (.bool (!decide (x = y))) := by
  unfold gNe
  rw [if_pos (small_str x), eqv_str]
theorem home_ok (p : Hand × Hand) : fn_home_of [some (.sh (pd p))] = .ok (.sh (.str p.2.1)) [none] := by
  have et : tTup [tName 1, tName 2] (pd p) [some (.sh (pd p)), none, none] = some [some (.sh (pd p)), some (.sh (hd p.1)), some (.sh (hd p.2))] := rfl
  have gx : gIx (hd p.2) (.int 0) = some (.str p.2.1) := rfl
  unfold fn_home_of m_home_of
  simp? only [et, Option.getD_some, gx]
/-! ### row_of -/
def rowB : M Out := (sIf ((m2 gEq ((m2 gIx (mSlot 6) ((M.ret (.int 0)).bind fun d => M.ret (.dat d))).bind fun d => M.ret (.dat d)) (mSlot 2)).bind asBool) (sRet (mTake 6)) (sNext))
theorem row_loop {o0 o1 o3 o4 o5 o7 : Option OD} {p : Hand × Hand} : ∀ (rows : List Row) (o6 : Option OD),
    (∃ r, (rows.find? fun r => decide (r.p = p)) = some r ∧ sLoop (tName 6) rowB (rows.map rd) [o0, o1, some (.sh (pd p)), o3, o4, o5, o6, o7] = .ok (.rt (.sh (rd r))) [o0, o1, some (.sh (pd p)), o3, o4, o5, none, o7]) ∨
    ((rows.find? fun r => decide (r.p = p)) = none ∧ ∃ o6', sLoop (tName 6) rowB (rows.map rd) [o0, o1, some (.sh (pd p)), o3, o4, o5, o6, o7] = .ok .nx [o0, o1, some (.sh (pd p)), o3, o4, o5, o6', o7])
  | [], o6 => .inr ⟨rfl, o6, rfl⟩
  | r :: rows, o6 => by
    have g0 : gIx (rd r) (.int 0) = some (pd r.p) := rfl
    have ge := gEq_pd r.p p
    have tn : tName 6 (rd r) [o0, o1, some (.sh (pd p)), o3, o4, o5, o6, o7] = some [o0, o1, some (.sh (pd p)), o3, o4, o5, some (.sh (rd r)), o7] := rfl
    rw [List.map_cons, v_lp1, tn, v_lpO, List.find?_cons]
    by_cases h : r.p = p
    · rw [decide_eq_true h] at ge
      refine .inl ⟨r, by rw [decide_eq_true h], ?_⟩
      have bb : rowB [o0, o1, some (.sh (pd p)), o3, o4, o5, some (.sh (rd r)), o7] = .ok (.rt (.sh (rd r))) [o0, o1, some (.sh (pd p)), o3, o4, o5, none, o7] := by
        unfold rowB
        simp? only [g0, ge]
      rw [bb, v_lpr]
    · rw [decide_eq_false h] at ge
      have bb : rowB [o0, o1, some (.sh (pd p)), o3, o4, o5, some (.sh (rd r)), o7] = .ok .nx [o0, o1, some (.sh (pd p)), o3, o4, o5, some (.sh (rd r)), o7] := by
        unfold rowB
        simp? only [g0, ge]
      rw [bb, v_lpn, decide_eq_false h]
      exact row_loop rows (some (.sh (rd r)))
theorem tg7 (a b c d e f g : PyData) : tupG [a, b, c, d, e, f, g] = some (.tuple [a, b, c, d, e, f, g]) := if_pos (show 7 ≤ sizeLine by decide)
theorem row_ok (l : Lot) (town : Str) (p : Hand × Hand) : fn_row_of [some (.sh (lotD l)), some (.sh (.str town)), some (.sh (pd p))] = .ok (.sh (rd (ownRow l town p))) [none, none, none] := by
  have et : tTup [tName 3, tName 4, tName 5] (lotD l) [some (.sh (lotD l)), some (.sh (.str town)), some (.sh (pd p)), none, none, none, none, none] =
    some [some (.sh (lotD l)), some (.sh (.str town)), some (.sh (pd p)), some (.sh (.int l.turn)), some (.sh (.int l.floor)), some (.sh (.tuple (l.rows.map rd))), none, none] := rfl
  have hm := home_ok p
  have ge := gEq_str2 town p.2.1
  unfold fn_row_of m_row_of
  rcases row_loop (o0 := some (.sh (lotD l))) (o1 := some (.sh (.str town))) (o3 := some (.sh (.int l.turn))) (o4 := some (.sh (.int l.floor))) (o5 := some (.sh (.tuple (l.rows.map rd)))) (o7 := none) (p := p) l.rows none with ⟨r, hf, e⟩ | ⟨hf, o6', e⟩
  · unfold rowB at e
    have eo : ownRow l town p = r := by unfold ownRow; rw [hf]
    rw [eo]
    simp? only [et, Option.getD_some]
    rw [e]
    simp? only []
  · unfold rowB at e
    simp? only [et, Option.getD_some]
    rw [e]
    by_cases h : town = p.2.1
    · rw [decide_eq_true h] at ge
      have eo : ownRow l town p = ⟨p, l.turn, 0, p.2.1, p.2.1, 0, l.floor, true⟩ := by unfold ownRow; rw [hf]; exact if_pos h
      rw [eo]
      simp? only [hm, ge, tg2, tg7]
      rfl
    · rw [decide_eq_false h] at ge
      have eo : ownRow l town p = ⟨p, 0, 0, p.2.1, p.2.1, 0, 0, false⟩ := by unfold ownRow; rw [hf]; exact if_neg h
      rw [eo]
      simp? only [hm, ge, tg2, tg7]
      rfl
theorem holds_ok (r : Row) (town : Str) : fn_holds [some (.sh (rd r)), some (.sh (.str town))] = .ok (.sh (.bool (mine r town))) [none, none] := by
  have et : tTup [tName 2, tName 2, tName 3, tName 2, tName 2, tName 2, tName 4] (rd r) [some (.sh (rd r)), some (.sh (.str town)), none, none, none] = some [some (.sh (rd r)), some (.sh (.str town)), some (.sh (.int r.free)), some (.sh (.str r.place)), some (.sh (.bool r.here))] := rfl
  have ge := gEq_str2 r.place town
  unfold fn_holds m_holds mine
  by_cases h : r.place = town
  · rw [decide_eq_true h] at ge ⊢
    simp? only [et, Option.getD_some, v_andV, ge]
    rfl
  · rw [decide_eq_false h] at ge ⊢
    simp? only [et, Option.getD_some, v_andV, ge]
    rfl
theorem mine_ok (l : Lot) (town : Str) (p : Hand × Hand) : fn_is_mine [some (.sh (lotD l)), some (.sh (.str town)), some (.sh (pd p))] = .ok (.sh (.bool (mine (ownRow l town p) town))) [none, none, none] := by
  have h1 := row_ok l town p
  have h2 := holds_ok (ownRow l town p) town
  unfold fn_is_mine m_is_mine
  simp? only [h1, h2]
theorem burn_ok (l : Lot) (town : Str) (p : Hand × Hand) (day : Int) : fn_burn_bars [some (.sh (lotD l)), some (.sh (.str town)), some (.sh (pd p)), some (.sh (.int day))] = .ok (.sh (barD (ownRow l town p) town day)) [none, none, none, none] := by
  have h1 := row_ok l town p
  generalize ownRow l town p = r at h1 ⊢
  have h2 := holds_ok r town
  have et : ∀ x y z : Option OD, tTup [tName 5, tName 5, tName 6, tName 5, tName 5, tName 7, tName 5] (rd r) [some (.sh (lotD l)), some (.sh (.str town)), some (.sh (pd p)), some (.sh (.int day)), some (.sh (rd r)), x, y, z] =
    some [some (.sh (lotD l)), some (.sh (.str town)), some (.sh (pd p)), some (.sh (.int day)), some (.sh (rd r)), some (.sh (.bool r.here)), some (.sh (.str r.place)), some (.sh (.int r.free))] := fun _ _ _ => rfl
  unfold fn_burn_bars m_burn_bars barD
  cases hm : mine r town with
  | false =>
    rw [hm] at h2
    simp? only [h1, h2, et, Option.getD_some]
  | true =>
    rw [hm] at h2
    by_cases hd : day < r.free
    · simp? only [h1, h2, et, Option.getD_some, gGt_int, hd, decide_true]
    · simp? only [h1, h2, et, Option.getD_some, gGt_int, hd, decide_false]
/-! ### the law's own -/
theorem rd_depth (r : Row) : (rd r).depth ≤ 3 := by simp [rd, pd, hd, PyData.depth, PyData.depthAll]
theorem own_ok (l : Lot) (town : Str) (p : Hand × Hand) (hl : l.rows.length ≤ 1000) : fn_own [some (.sh (lotD l)), some (.sh (.str town)), some (.sh (pd p))] = .ok (.sh (rd (ownRow l town p))) [none, none, none] := by
  have z := sizeLine_eq
  have g2 : gIx (lotD l) (.int 2) = some (.tuple (l.rows.map rd)) := rfl
  have gt : gIx (lotD l) (.int 0) = some (.int l.turn) := rfl
  have gf : gIx (lotD l) (.int 1) = some (.int l.floor) := rfl
  have gp : gIx (pd p) (.int 1) = some (hd p.2) := rfl
  have gh : gIx (hd p.2) (.int 0) = some (.str p.2.1) := rfl
  obtain ⟨ρ', ⟨o5, hρ⟩, e⟩ := lc_filt (t := tName 5) (mt := (m2 gEq ((m2 gIx (mSlot 5) ((M.ret (.int 0)).bind fun d => M.ret (.dat d))).bind fun d => M.ret (.dat d)) (mSlot 2)).bind asBool) (me := mName 5) (vs := [5])
    (Inv := fun ρ => ∃ o, ρ = [some (.sh (lotD l)), some (.sh (.str town)), some (.sh (pd p)), none, none, o]) (fun d => match gIx d (.int 0) with | some q => PyData.eqv q (pd p) | none => false) id (l.rows.map rd) [] [some (.sh (lotD l)), some (.sh (.str town)), some (.sh (pd p)), none, none, none] ⟨none, rfl⟩
    (by rw [List.length_nil, List.length_map]; omega) (fun x hx ρ ⟨o, hρ⟩ => by
      obtain ⟨r, _, rfl⟩ := List.mem_map.mp hx
      subst hρ
      have g0 : gIx (rd r) (.int 0) = some (pd r.p) := rfl
      have ge := gEq_pd r.p p
      refine ⟨[some (.sh (lotD l)), some (.sh (.str town)), some (.sh (pd p)), none, none, some (.sh (rd r))], [some (.sh (lotD l)), some (.sh (.str town)), some (.sh (pd p)), none, none, some (.sh (rd r))], rfl, ?_, fun _ => ⟨_, rfl⟩, fun _ => ⟨[some (.sh (lotD l)), some (.sh (.str town)), some (.sh (pd p)), none, none, some (.sh (rd r))], ?_, ⟨_, rfl⟩⟩⟩
      · simp only [g0]
        rw [eqv_pd]
        simp? only [g0, ge]
      · simp? only []
        rfl)
  subst hρ
  have ef : ((l.rows.map rd).filter (fun d => match gIx d (.int 0) with | some q => PyData.eqv q (pd p) | none => false)).map id = (l.rows.filter fun r => decide (r.p = p)).map rd := by
    rw [List.map_id, List.filter_map]
    congr 1
    refine List.filter_congr fun r _ => ?_
    show PyData.eqv (pd r.p) (pd p) = _
    exact eqv_pd r.p p
  rw [ef, List.nil_append] at e
  have hd1 : (l.rows.filter fun r => decide (r.p = p)).head? = l.rows.find? fun r => decide (r.p = p) := List.head?_filter
  have rr : ∀ x y : Option OD, restR [some (.sh (lotD l)), some (.sh (.str town)), some (.sh (pd p)), none, none, x] [some (.sh (lotD l)), some (.sh (.str town)), some (.sh (pd p)), none, none, y] [5] = [some (.sh (lotD l)), some (.sh (.str town)), some (.sh (pd p)), none, none, x] := fun _ _ => rfl
  have l0 : lstG [] = some (.ol []) := if_pos (Nat.zero_le _)
  unfold fn_own m_own
  generalize l.rows.filter (fun r => decide (r.p = p)) = fl at e hd1
  cases fl with
  | nil =>
    have hf : (l.rows.find? fun r => decide (r.p = p)) = none := hd1.symm
    have gn : gNe (.list []) (.list []) = some (.bool false) := rfl
    have ge := gEq_str2 p.2.1 town
    rw [List.map_nil] at e
    by_cases h : town = p.2.1
    · rw [decide_eq_true h.symm] at ge
      have eo : ownRow l town p = ⟨p, l.turn, 0, p.2.1, p.2.1, 0, l.floor, true⟩ := by unfold ownRow; rw [hf]; exact if_pos h
      rw [eo]
      simp? only [v_comp, g2]
      rw [e]
      simp? only [v_cpk, List.length_cons, List.length_nil, rr, l0, gn, gp, gh, ge, gt, gf, tg2, tg7]
      rfl
    · rw [decide_eq_false fun q => h q.symm] at ge
      have eo : ownRow l town p = ⟨p, 0, 0, p.2.1, p.2.1, 0, 0, false⟩ := by unfold ownRow; rw [hf]; exact if_neg h
      rw [eo]
      simp? only [v_comp, g2]
      rw [e]
      simp? only [v_cpk, List.length_cons, List.length_nil, rr, l0, gn, gp, gh, ge, gt, gf, tg2, tg7]
      rfl
  | cons r fl =>
    have hf : (l.rows.find? fun r => decide (r.p = p)) = some r := hd1.symm
    have eo : ownRow l town p = r := by unfold ownRow; rw [hf]
    have gn : gNe (.list (rd r :: fl.map rd)) (.list []) = some (.bool true) := by
      have sm : small (.list (rd r :: fl.map rd)) = true := decide_eq_true (by
        rw [PyData.depth]
        have := depth_all 3 (ds := rd r :: fl.map rd) fun d hd => by
          rcases List.mem_cons.mp hd with rfl | hd
          · exact rd_depth r
          · obtain ⟨q, _, rfl⟩ := List.mem_map.mp hd
            exact rd_depth q
        omega)
      have ev : PyData.eqv (.list (rd r :: fl.map rd)) (.list []) = false := by simp [PyData.eqv, PyData.eqvAll]
      unfold gNe
      rw [if_pos sm, ev]
      rfl
    have g0 : gIx (.list (rd r :: fl.map rd)) (.int 0) = some (rd r) := by
      show L2.atI _ 0 = _
      unfold L2.atI ixN
      simp
    rw [eo]
    rw [List.map_cons] at e
    simp? only [v_comp, g2]
    rw [e]
    simp? only [v_cpk, List.length_cons, List.length_nil, rr, l0, gn, g0]
end Lw
namespace Lw
open PySem L2 PySem.W PySem.SeqAt Eg
theorem bar_ok (l : Lot) (town : Str) (p : Hand × Hand) (day : Int) (hl : l.rows.length ≤ 1000) : fn_bar [some (.sh (lotD l)), some (.sh (.str town)), some (.sh (pd p)), some (.sh (.int day))] = .ok (.sh (barD (ownRow l town p) town day)) [none, none, none, none] := by
  have h1 := own_ok l town p hl
  generalize ownRow l town p = r at h1 ⊢
  have g2 : gIx (rd r) (.int 2) = some (.str r.place) := rfl
  have g5 : gIx (rd r) (.int 5) = some (.int r.free) := rfl
  have g6 : gIx (rd r) (.int 6) = some (.bool r.here) := rfl
  have gn := gNe_str2 r.place town
  unfold fn_bar m_bar barD mine
  by_cases h : r.place = town
  · rw [decide_eq_true h] at gn ⊢
    cases hh : r.here with
    | false =>
      rw [hh] at g6
      simp? only [h1, g2, g5, g6, gn]
      rfl
    | true =>
      rw [hh] at g6
      by_cases hd : day < r.free
      · simp? only [h1, g2, g5, g6, gn, gGt_int, hd, decide_true]
        rfl
      · simp? only [h1, g2, g5, g6, gn, gGt_int, hd, decide_false]
        rfl
  · rw [decide_eq_false h] at gn ⊢
    simp? only [h1, g2, g5, g6, gn]
    rfl
/-! ### what is shown -/
def IntF (i : Int) : Prop := (PyData.int i).showable = true ∧ (PyData.int i).shown.length ≤ 50
instance : DecidablePred IntF := fun i => by unfold IntF; infer_instance
def StrF (x : Str) : Prop := (reprText x).length ≤ 20
instance : DecidablePred StrF := fun i => by unfold StrF; infer_instance
def PairF (p : Hand × Hand) : Prop := (StrF p.1.1 ∧ StrF p.1.2) ∧ StrF p.2.1 ∧ StrF p.2.2
structure RowF (r : Row) : Prop where
  p : PairF r.p
  a : IntF r.a
  b : IntF r.b
  place : StrF r.place
  giver : StrF r.giver
  u : IntF r.u
  free : IntF r.free
theorem _root_.Eg.Sh.mono {n m k l : Nat} {d : PyData} (h : Sh n k d) (hn : n ≤ m) (hk : k ≤ l) : Sh m l d := ⟨h.1, Nat.le_trans h.2.1 hn, Nat.le_trans h.2.2 hk⟩
theorem Sh.int {i : Int} (h : IntF i) : Sh 50 0 (.int i) := ⟨h.1, h.2, by rw [PyData.depth]; exact Nat.le_refl _⟩
theorem Sh.bool (b : Bool) : Sh 50 0 (.bool b) := by cases b <;> exact ⟨by rw [PyData.showable], by decide +kernel, by rw [PyData.depth]; exact Nat.le_refl _⟩
theorem Sh.none : Sh 50 0 .none := ⟨by rw [PyData.showable], by decide +kernel, by rw [PyData.depth]; exact Nat.le_refl _⟩
theorem Sh.strF {x : Str} (h : StrF x) : Sh 50 0 (.str x) := (Sh.str h).mono (by decide) (Nat.le_refl _)
theorem Sh.hd {h : Hand} (a : StrF h.1) (b : StrF h.2) : Sh 107 1 (hd h) := Sh.tuple (n := 50) (k := 0) (m := 2) (fun d hd => by
  simp at hd
  rcases hd with rfl | rfl
  · exact Sh.strF a
  · exact Sh.strF b) (Nat.le_refl _)
theorem Sh.pd {p : Hand × Hand} (h : PairF p) : Sh 221 2 (pd p) := Sh.tuple (n := 107) (k := 1) (m := 2) (fun d hd => by
  simp at hd
  rcases hd with rfl | rfl
  · exact Sh.hd h.1.1 h.1.2
  · exact Sh.hd h.2.1 h.2.2) (Nat.le_refl _)
theorem Sh.rd {r : Row} (h : RowF r) : Sh 1564 3 (rd r) := Sh.tuple (n := 221) (k := 2) (m := 7) (fun d hd => by
  simp at hd
  rcases hd with rfl | rfl | rfl | rfl | rfl | rfl | rfl
  · exact Sh.pd h.p
  · refine Sh.mono (Sh.tuple (n := 50) (k := 0) (m := 2) (ds := [.int r.a, .int r.b]) (fun d hd => ?_) (Nat.le_refl 2)) (by decide) (by decide)
    simp at hd
    rcases hd with rfl | rfl
    · exact Sh.int h.a
    · exact Sh.int h.b
  · exact (Sh.strF h.place).mono (by decide) (by decide)
  · exact (Sh.strF h.giver).mono (by decide) (by decide)
  · exact (Sh.int h.u).mono (by decide) (by decide)
  · exact (Sh.int h.free).mono (by decide) (by decide)
  · exact (Sh.bool r.here).mono (by decide) (by decide)) (Nat.le_refl _)
structure LotF (l : Lot) : Prop where
  turn : IntF l.turn
  floor : IntF l.floor
  len : l.rows.length ≤ 100
  rows : ∀ r ∈ l.rows, RowF r
theorem int0 : IntF 0 := by decide +kernel
theorem own_fine {l : Lot} (h : LotF l) (town : Str) {p : Hand × Hand} (hp : PairF p) : RowF (ownRow l town p) := by
  unfold ownRow
  cases q : l.rows.find? fun r => decide (r.p = p) with
  | some r => exact h.rows r (List.mem_of_find?_eq_some q)
  | none =>
    simp only
    split
    · exact ⟨hp, h.turn, int0, hp.2.1, hp.2.1, int0, h.floor⟩
    · exact ⟨hp, int0, int0, hp.2.1, hp.2.1, int0, int0⟩
theorem lot_repr {l : Lot} (h : LotF l) : gRepr [lotD l] = some (.sh (.str (lotD l).shown)) := by
  have s1 : Sh 156603 4 (.tuple (l.rows.map rd)) := Sh.tuple (n := 1564) (k := 3) (m := 100) (fun d hd => by obtain ⟨r, hr, rfl⟩ := List.mem_map.mp hd; exact Sh.rd (h.rows r hr)) (by rw [List.length_map]; exact h.len)
  refine Sh.repr (Sh.tuple (n := 156603) (k := 4) (m := 3) (fun d hd => ?_) (Nat.le_refl _)) (by decide) (by decide)
  simp at hd
  rcases hd with rfl | rfl | rfl
  · exact (Sh.int h.turn).mono (by decide) (by decide)
  · exact (Sh.int h.floor).mono (by decide) (by decide)
  · exact s1
theorem bar_sh {r : Row} (h : RowF r) (town : Str) (day : Int) : Sh 50 0 (barD r town day) := by
  unfold barD
  split
  · split
    · exact Sh.int h.free
    · exact Sh.none
  · exact Sh.strF h.place
theorem bar_repr {r : Row} (h : RowF r) (town : Str) (day : Int) : gRepr [barD r town day] = some (.sh (.str (barD r town day).shown)) := (bar_sh h town day).repr (by decide) (by decide)
end Lw
namespace Lw
open PySem L2 PySem.W PySem.SeqAt Eg
theorem ints30 : ∀ i : Fin 30, IntF ((i.val : Nat) : Int) := by decide +kernel
theorem intF30 {i : Int} (h : 0 ≤ i) (h2 : i < 30) : IntF i := by
  obtain ⟨n, rfl⟩ := Int.eq_ofNat_of_zero_le h
  exact ints30 ⟨n, by omega⟩
theorem gIx_str {ts : List Str} {v : Int} (h0 : 0 ≤ v) (h1 : v < ts.length) : ∃ x ∈ ts, gIx (.list (ts.map .str)) (.int v) = some (.str x) := by
  have hl : v.toNat < ts.length := by omega
  refine ⟨ts[v.toNat], List.getElem_mem hl, ?_⟩
  show L2.atI (ts.map PyData.str) v = _
  unfold L2.atI ixN
  simp [h0, h1, List.getElem?_eq_getElem hl]
/-- a drawn row -/
theorem row_new {kvs : List (Key × PyData)} {k : Nat} {ts : List Str} {p : Hand × Hand} (h : TapAt kvs k) (hk : k < 900000) (h1 : 1 ≤ ts.length) (h2 : ts.length ≤ 100) (hp : PairF p) (hs : ∀ x ∈ ts, StrF x) : ∃ (r : Row) (kvs' : List (Key × PyData)), r.p = p ∧ RowF r ∧ TapAt kvs' (k + 10) ∧
    fn_row [some (.od kvs), some (.sh (pd p)), some (.sh (.list (ts.map .str)))] = .ok (.sh (rd r)) [some (.od kvs'), none, none] := by
  obtain ⟨v1, k1, a1, b1, t1, e1⟩ := take_at h (by omega) (show (0 : Int) < 3 by decide) (by decide)
  obtain ⟨v2, k2, a2, b2, t2, e2⟩ := take_at t1 (by omega) (show (0 : Int) < 4 by decide) (by decide)
  obtain ⟨v3, k3, a3, b3, t3, e3⟩ := take_at t2 (by omega) (show (0 : Int) < (ts.length : Int) by omega) (by omega)
  obtain ⟨v4, k4, a4, b4, t4, e4⟩ := take_at t3 (by omega) (show (0 : Int) < (ts.length : Int) by omega) (by omega)
  obtain ⟨v5, k5, a5, b5, t5, e5⟩ := take_at t4 (by omega) (show (0 : Int) < 3 by decide) (by decide)
  obtain ⟨v6, k6, a6, b6, t6, e6⟩ := take_at t5 (by omega) (show (0 : Int) < 30 by decide) (by decide)
  obtain ⟨v7, k7, a7, b7, t7, e7⟩ := take_at t6 (by omega) (show (0 : Int) < 2 by decide) (by decide)
  obtain ⟨x, hx, g3⟩ := gIx_str a3 b3
  obtain ⟨y, hy, g4⟩ := gIx_str a4 b4
  have gl : gLen [.list (ts.map .str)] = some (.sh (.int (ts.length : Int))) := by rw [gLen_any, List.length_map]
  refine ⟨⟨p, v1, v2, x, y, v5, v6, decide (v7 = 0)⟩, k7, rfl, ⟨hp, intF30 a1 (Int.lt_trans b1 (by decide)), intF30 a2 (Int.lt_trans b2 (by decide)), hs x hx, hs y hy, intF30 a5 (Int.lt_trans b5 (by decide)), intF30 a6 b6⟩, t7.mono (by omega), ?_⟩
  unfold fn_row m_row
  simp? only [e1, e2, tg2, gl, e3, g3, e4, g4, e5, e6, e7, gEq_int, tg7]
  rfl
/-! ### a lot -/
def lotT : M Bool := ((m2 gGt (((mCallO fn_take (mCons (mSlot 0) (mCons ((M.ret (.int 3)).bind fun d => M.ret (.dat d)) (mNil)))).bind fz).bind fun d => M.ret (.dat d)) ((M.ret (.int 0)).bind fun d => M.ret (.dat d))).bind asBool)
def lotE : M PyData := ((mCallO fn_row (mCons (mSlot 0) (mCons ((mName 4).bind fun d => M.ret (.dat d)) (mCons ((mName 2).bind fun d => M.ret (.dat d)) (mNil))))).bind fz)
theorem lot_loop {ts : List Str} {o1 : Option OD} (h1 : 1 ≤ ts.length) (h2 : ts.length ≤ 100) (hs : ∀ x ∈ ts, StrF x) : ∀ (ps : List (Hand × Hand)) (acc : List Row) (kvs : List (Key × PyData)) (k : Nat) (o3 o4 : Option OD), TapAt kvs k → k + 20 * ps.length < 800000 → acc.length + ps.length ≤ 1000 → (∀ p ∈ ps, PairF p) →
    ∃ (rows : List Row) (kvs' : List (Key × PyData)) (o4' : Option OD), (∀ r ∈ rows, RowF r) ∧ rows.length ≤ ps.length ∧ TapAt kvs' (k + 20 * ps.length) ∧
      lcGo (tName 4) lotT lotE [4] (ps.map pd) (acc.map rd) [some (.od kvs), o1, some (.sh (.list (ts.map .str))), o3, o4] = .ok ((acc ++ rows).map rd) [some (.od kvs'), o1, some (.sh (.list (ts.map .str))), o3, o4']
  | [], acc, kvs, k, o3, o4, ht, _, _, _ => ⟨[], kvs, o4, fun r h => (by cases h), Nat.le_refl _, ht, by rw [List.append_nil]; rfl⟩
  | p :: ps, acc, kvs, k, o3, o4, ht, hk, ha, hp => by
    rw [List.length_cons] at hk ha
    have z := sizeLine_eq
    obtain ⟨v1, k1, a1, b1, t1, e1⟩ := take_at ht (by omega) (show (0 : Int) < 3 by decide) (by decide)
    have tn : tName 4 (pd p) (wipeR [some (.od kvs), o1, some (.sh (.list (ts.map .str))), o3, o4] [4]) = some [some (.od kvs), o1, some (.sh (.list (ts.map .str))), o3, some (.sh (pd p))] := rfl
    have tt : lotT [some (.od kvs), o1, some (.sh (.list (ts.map .str))), o3, some (.sh (pd p))] = .ok (decide (0 < v1)) [some (.od k1), o1, some (.sh (.list (ts.map .str))), o3, some (.sh (pd p))] := by
      unfold lotT
      simp? only [e1, gGt_int]
    by_cases hv : 0 < v1
    · obtain ⟨r, k2, rp, rf, t2, e2⟩ := row_new t1 (by omega) h1 h2 (hp p List.mem_cons_self) hs
      obtain ⟨rows, k3, o4', rs, rl, t3, e3⟩ := lot_loop (o1 := o1) h1 h2 hs ps (acc ++ [r]) k2 (k + 1 + 10) o3 (some (.sh (pd p))) t2 (by omega) (by rw [List.length_append, List.length_singleton]; omega) fun q hq => hp q (List.mem_cons_of_mem _ hq)
      refine ⟨r :: rows, k3, o4', fun q hq => ?_, by rw [List.length_cons, List.length_cons]; omega, t3.mono (by rw [List.length_cons]; omega), ?_⟩
      · rcases List.mem_cons.mp hq with rfl | hq
        · exact rf
        · exact rs q hq
      · have ee : lotE [some (.od k1), o1, some (.sh (.list (ts.map .str))), o3, some (.sh (pd p))] = .ok (rd r) [some (.od k2), o1, some (.sh (.list (ts.map .str))), o3, some (.sh (pd p))] := by
          unfold lotE
          simp? only [e2]
        rw [List.map_cons]
        simp only [lcGo, tn, tt, decide_eq_true hv, ee]
        rw [if_pos (by rw [List.length_map]; omega)]
        have m1 : acc.map rd ++ [rd r] = (acc ++ [r]).map rd := by rw [List.map_append]; rfl
        rw [m1, e3, List.append_assoc]
        rfl
    · obtain ⟨rows, k3, o4', rs, rl, t3, e3⟩ := lot_loop (o1 := o1) h1 h2 hs ps acc k1 (k + 1) o3 (some (.sh (pd p))) t1 (by omega) (by omega) fun q hq => hp q (List.mem_cons_of_mem _ hq)
      refine ⟨rows, k3, o4', rs, by rw [List.length_cons]; omega, t3.mono (by rw [List.length_cons]; omega), ?_⟩
      rw [List.map_cons]
      simp only [lcGo, tn, tt, decide_eq_false hv]
      exact e3
theorem tg3 (a b c : PyData) : tupG [a, b, c] = some (.tuple [a, b, c]) := if_pos (show 3 ≤ sizeLine by decide)
theorem lot_new {kvs : List (Key × PyData)} {k : Nat} {ts : List Str} {ps : List (Hand × Hand)} (h : TapAt kvs k) (hk : k < 100000) (h1 : 1 ≤ ts.length) (h2 : ts.length ≤ 100) (hp : ∀ p ∈ ps, PairF p) (hl : ps.length ≤ 100) (hs : ∀ x ∈ ts, StrF x) : ∃ (l : Lot) (kvs' : List (Key × PyData)), LotF l ∧ TapAt kvs' (k + 3000) ∧
    fn_lot [some (.od kvs), some (.sh (.list (ps.map pd))), some (.sh (.list (ts.map .str)))] = .ok (.sh (lotD l)) [some (.od kvs'), none, none] := by
  obtain ⟨rows, k1, o4', rs, rl, t1, e1⟩ := lot_loop (o1 := some (.sh (.list (ps.map pd)))) h1 h2 hs ps [] kvs k none none h (by omega) (by rw [List.length_nil]; omega) hp
  obtain ⟨v2, k2, a2, b2, t2, e2⟩ := take_at t1 (by omega) (show (0 : Int) < 3 by decide) (by decide)
  obtain ⟨v3, k3, a3, b3, t3, e3⟩ := take_at t2 (by omega) (show (0 : Int) < 30 by decide) (by decide)
  refine ⟨⟨v2, v3, rows⟩, k3, ⟨intF30 a2 (Int.lt_trans b2 (by decide)), intF30 a3 b3, by show rows.length ≤ 100; omega, rs⟩, t3.mono (by omega), ?_⟩
  rw [List.nil_append, List.map_nil] at e1
  have gt : ∀ ds : List PyData, gTuple [.list ds] = some (.sh (.tuple ds)) := fun _ => rfl
  unfold fn_lot m_lot
  simp? only [v_comp]
  unfold lotT lotE at e1
  rw [e1]
  simp? only [v_cpk, List.length_cons, List.length_nil, v_rs0, v_rs1, gt, e2, e3, tg3]
  rfl
end Lw
namespace Eg
open PySem L2 PySem.W PySem.SeqAt
theorem isT (b : Bool) : gIsB true (.bool b) = some (.bool b) := by cases b <;> rfl
theorem isF (b : Bool) : gIsB false (.bool b) = some (.bool (!b)) := by cases b <;> rfl
theorem notT (b : Bool) : gNotB true (.bool b) = some (.bool (!b)) := by cases b <;> rfl
theorem notF (b : Bool) : gNotB false (.bool b) = some (.bool b) := by cases b <;> rfl
theorem tuT (ds : List PyData) : gTuple [.tuple ds] = some (.sh (.tuple ds)) := rfl
theorem aAdd_int (a b : Int) : aAdd (.int a) (.int b) = some (.sh (.int (a + b))) := rfl
theorem gLen_list (c : List PyData) : gLen [.list c] = some (.sh (.int c.length)) := rfl
theorem gLen_tup (c : List PyData) : gLen [.tuple c] = some (.sh (.int c.length)) := rfl
theorem gLe_int (a b : Int) : gLe (.int a) (.int b) = some (.bool (decide (a ≤ b))) := by
  simp [gLe, cmpOk, alike, Eg.isNon, small, PyData.depth, dataLt_int]
  by_cases h : b < a
  · simp [h]
  · simp [h]; omega
theorem isN_n : gIsN .none = some (.bool true) := rfl
theorem isN_t (d : List PyData) : gIsN (.tuple d) = some (.bool false) := rfl
theorem isN_l (d : List PyData) : gIsN (.list d) = some (.bool false) := rfl
theorem isN_s (d : Str) : gIsN (.str d) = some (.bool false) := rfl
theorem isN_i (d : Int) : gIsN (.int d) = some (.bool false) := rfl
theorem isN_b (d : Bool) : gIsN (.bool d) = some (.bool false) := rfl
theorem notN_n : gNotN .none = some (.bool false) := rfl
theorem notN_t (d : List PyData) : gNotN (.tuple d) = some (.bool true) := rfl
theorem notN_l (d : List PyData) : gNotN (.list d) = some (.bool true) := rfl
theorem notN_s (d : Str) : gNotN (.str d) = some (.bool true) := rfl
theorem notN_i (d : Int) : gNotN (.int d) = some (.bool true) := rfl
theorem notN_b (d : Bool) : gNotN (.bool d) = some (.bool true) := rfl
theorem ix_t0 (a0 : PyData) (l : List PyData) : gIx (.tuple (a0 :: l)) (.int 0) = some a0 := by
  show L2.atI _ _ = _
  unfold L2.atI ixN
  simp
  first | done | (rw [if_pos (by omega)]; rfl)
theorem ix_t1 (a0 a1 : PyData) (l : List PyData) : gIx (.tuple (a0 :: a1 :: l)) (.int 1) = some a1 := by
  show L2.atI _ _ = _
  unfold L2.atI ixN
  simp
  first | done | (rw [if_pos (by omega)]; rfl)
theorem ix_t2 (a0 a1 a2 : PyData) (l : List PyData) : gIx (.tuple (a0 :: a1 :: a2 :: l)) (.int 2) = some a2 := by
  show L2.atI _ _ = _
  unfold L2.atI ixN
  simp
  first | done | (rw [if_pos (by omega)]; rfl)
theorem ix_t3 (a0 a1 a2 a3 : PyData) (l : List PyData) : gIx (.tuple (a0 :: a1 :: a2 :: a3 :: l)) (.int 3) = some a3 := by
  show L2.atI _ _ = _
  unfold L2.atI ixN
  simp
  first | done | (rw [if_pos (by omega)]; rfl)
theorem ix_t4 (a0 a1 a2 a3 a4 : PyData) (l : List PyData) : gIx (.tuple (a0 :: a1 :: a2 :: a3 :: a4 :: l)) (.int 4) = some a4 := by
  show L2.atI _ _ = _
  unfold L2.atI ixN
  simp
  first | done | (rw [if_pos (by omega)]; rfl)
theorem ix_t5 (a0 a1 a2 a3 a4 a5 : PyData) (l : List PyData) : gIx (.tuple (a0 :: a1 :: a2 :: a3 :: a4 :: a5 :: l)) (.int 5) = some a5 := by
  show L2.atI _ _ = _
  unfold L2.atI ixN
  simp
  first | done | (rw [if_pos (by omega)]; rfl)
theorem ix_t6 (a0 a1 a2 a3 a4 a5 a6 : PyData) (l : List PyData) : gIx (.tuple (a0 :: a1 :: a2 :: a3 :: a4 :: a5 :: a6 :: l)) (.int 6) = some a6 := by
  show L2.atI _ _ = _
  unfold L2.atI ixN
  simp
  first | done | (rw [if_pos (by omega)]; rfl)
theorem tyIs_int_int (i : Int) : gTyIs "int" (.int i) = some (.bool true) := rfl
theorem tyNot_int_int (i : Int) : gTyNot "int" (.int i) = some (.bool false) := rfl
theorem tyIs_int_bool (i : Bool) : gTyIs "int" (.bool i) = some (.bool false) := rfl
theorem tyNot_int_bool (i : Bool) : gTyNot "int" (.bool i) = some (.bool true) := rfl
theorem tyIs_int_str (i : Str) : gTyIs "int" (.str i) = some (.bool false) := rfl
theorem tyNot_int_str (i : Str) : gTyNot "int" (.str i) = some (.bool true) := rfl
theorem tyIs_int_list (i : List PyData) : gTyIs "int" (.list i) = some (.bool false) := rfl
theorem tyNot_int_list (i : List PyData) : gTyNot "int" (.list i) = some (.bool true) := rfl
theorem tyIs_int_tuple (i : List PyData) : gTyIs "int" (.tuple i) = some (.bool false) := rfl
theorem tyNot_int_tuple (i : List PyData) : gTyNot "int" (.tuple i) = some (.bool true) := rfl
theorem tyIs_int_NoneType : gTyIs "int" (.none) = some (.bool false) := rfl
theorem tyNot_int_NoneType : gTyNot "int" (.none) = some (.bool true) := rfl
theorem tyIs_bool_int (i : Int) : gTyIs "bool" (.int i) = some (.bool false) := rfl
theorem tyNot_bool_int (i : Int) : gTyNot "bool" (.int i) = some (.bool true) := rfl
theorem tyIs_bool_bool (i : Bool) : gTyIs "bool" (.bool i) = some (.bool true) := rfl
theorem tyNot_bool_bool (i : Bool) : gTyNot "bool" (.bool i) = some (.bool false) := rfl
theorem tyIs_bool_str (i : Str) : gTyIs "bool" (.str i) = some (.bool false) := rfl
theorem tyNot_bool_str (i : Str) : gTyNot "bool" (.str i) = some (.bool true) := rfl
theorem tyIs_bool_list (i : List PyData) : gTyIs "bool" (.list i) = some (.bool false) := rfl
theorem tyNot_bool_list (i : List PyData) : gTyNot "bool" (.list i) = some (.bool true) := rfl
theorem tyIs_bool_tuple (i : List PyData) : gTyIs "bool" (.tuple i) = some (.bool false) := rfl
theorem tyNot_bool_tuple (i : List PyData) : gTyNot "bool" (.tuple i) = some (.bool true) := rfl
theorem tyIs_bool_NoneType : gTyIs "bool" (.none) = some (.bool false) := rfl
theorem tyNot_bool_NoneType : gTyNot "bool" (.none) = some (.bool true) := rfl
theorem tyIs_str_int (i : Int) : gTyIs "str" (.int i) = some (.bool false) := rfl
theorem tyNot_str_int (i : Int) : gTyNot "str" (.int i) = some (.bool true) := rfl
theorem tyIs_str_bool (i : Bool) : gTyIs "str" (.bool i) = some (.bool false) := rfl
theorem tyNot_str_bool (i : Bool) : gTyNot "str" (.bool i) = some (.bool true) := rfl
theorem tyIs_str_str (i : Str) : gTyIs "str" (.str i) = some (.bool true) := rfl
theorem tyNot_str_str (i : Str) : gTyNot "str" (.str i) = some (.bool false) := rfl
theorem tyIs_str_list (i : List PyData) : gTyIs "str" (.list i) = some (.bool false) := rfl
theorem tyNot_str_list (i : List PyData) : gTyNot "str" (.list i) = some (.bool true) := rfl
theorem tyIs_str_tuple (i : List PyData) : gTyIs "str" (.tuple i) = some (.bool false) := rfl
theorem tyNot_str_tuple (i : List PyData) : gTyNot "str" (.tuple i) = some (.bool true) := rfl
theorem tyIs_str_NoneType : gTyIs "str" (.none) = some (.bool false) := rfl
theorem tyNot_str_NoneType : gTyNot "str" (.none) = some (.bool true) := rfl
theorem tyIs_list_int (i : Int) : gTyIs "list" (.int i) = some (.bool false) := rfl
theorem tyNot_list_int (i : Int) : gTyNot "list" (.int i) = some (.bool true) := rfl
theorem tyIs_list_bool (i : Bool) : gTyIs "list" (.bool i) = some (.bool false) := rfl
theorem tyNot_list_bool (i : Bool) : gTyNot "list" (.bool i) = some (.bool true) := rfl
theorem tyIs_list_str (i : Str) : gTyIs "list" (.str i) = some (.bool false) := rfl
theorem tyNot_list_str (i : Str) : gTyNot "list" (.str i) = some (.bool true) := rfl
theorem tyIs_list_list (i : List PyData) : gTyIs "list" (.list i) = some (.bool true) := rfl
theorem tyNot_list_list (i : List PyData) : gTyNot "list" (.list i) = some (.bool false) := rfl
theorem tyIs_list_tuple (i : List PyData) : gTyIs "list" (.tuple i) = some (.bool false) := rfl
theorem tyNot_list_tuple (i : List PyData) : gTyNot "list" (.tuple i) = some (.bool true) := rfl
theorem tyIs_list_NoneType : gTyIs "list" (.none) = some (.bool false) := rfl
theorem tyNot_list_NoneType : gTyNot "list" (.none) = some (.bool true) := rfl
theorem tyIs_tuple_int (i : Int) : gTyIs "tuple" (.int i) = some (.bool false) := rfl
theorem tyNot_tuple_int (i : Int) : gTyNot "tuple" (.int i) = some (.bool true) := rfl
theorem tyIs_tuple_bool (i : Bool) : gTyIs "tuple" (.bool i) = some (.bool false) := rfl
theorem tyNot_tuple_bool (i : Bool) : gTyNot "tuple" (.bool i) = some (.bool true) := rfl
theorem tyIs_tuple_str (i : Str) : gTyIs "tuple" (.str i) = some (.bool false) := rfl
theorem tyNot_tuple_str (i : Str) : gTyNot "tuple" (.str i) = some (.bool true) := rfl
theorem tyIs_tuple_list (i : List PyData) : gTyIs "tuple" (.list i) = some (.bool false) := rfl
theorem tyNot_tuple_list (i : List PyData) : gTyNot "tuple" (.list i) = some (.bool true) := rfl
theorem tyIs_tuple_tuple (i : List PyData) : gTyIs "tuple" (.tuple i) = some (.bool true) := rfl
theorem tyNot_tuple_tuple (i : List PyData) : gTyNot "tuple" (.tuple i) = some (.bool false) := rfl
theorem tyIs_tuple_NoneType : gTyIs "tuple" (.none) = some (.bool false) := rfl
theorem tyNot_tuple_NoneType : gTyNot "tuple" (.none) = some (.bool true) := rfl
end Eg
local macro_rules | `(tactic| simp! only [$ls,*]) => `(tactic| simp -implicitDefEqProofs only [Eg.v_bind, Eg.v_go, Eg.v_ret, Eg.v_get, Eg.v_lift, Eg.v_opt, Eg.v_seq, Eg.v_sqn, Eg.v_sqr, Eg.v_sqb, Eg.v_sqc, Eg.v_set, Eg.v_sret, Eg.v_if, Eg.v_mif, Eg.v_next, Eg.v_expr, Eg.v_dat, Eg.v_slot, Eg.v_sd, Eg.v_so, Eg.v_m2, Eg.v_m2k, Eg.v_m1, Eg.v_m1k, Eg.v_mL, Eg.v_mLk, Eg.v_rl0, Eg.v_rl1, Eg.v_nil, Eg.v_cons, Eg.v_fix, Eg.v_fix0, Eg.v_fix1, Eg.v_fzs, Eg.v_fzo, Eg.v_ab, Eg.v_not, Eg.v_and, Eg.v_or, Eg.v_ai, Eg.v_fn, Eg.v_fin, Eg.v_fin2, Eg.v_kp0, Eg.v_kpt, Eg.v_kpf, Eg.v_slo, Eg.v_mslot, Eg.v_name, Eg.v_nms, Eg.v_nmo, Eg.v_take, Eg.v_tks, Eg.v_tko, Eg.v_has, Eg.v_hask, Eg.v_dget, Eg.v_dgk, Eg.v_dgo, Eg.v_put, Eg.v_putk, Eg.v_puto, Eg.v_app, Eg.v_apo, Eg.v_ol, Eg.v_olk, Eg.v_callO, Eg.v_coK, Eg.v_coO, Eg.v_coR, Eg.v_as0, Eg.v_asd, Eg.v_ass, Eg.v_asod, Eg.v_asoc, Eg.v_ason, Eg.v_call, Eg.v_caO, Eg.v_caR, Eg.v_for, Eg.v_lpO, Eg.v_lpn, Eg.v_lpr, Eg.v_tn, Eg.v_sil, Eg.v_sit, Eg.v_par, Eg.v_un, List.map_cons, List.map_nil, List.getElem?_cons_zero, List.getElem?_cons_succ, List.set_cons_zero, List.set_cons_succ, List.replicate_succ, List.replicate_zero, List.cons_append, List.nil_append, Option.bind_eq_bind, Option.bind_some, Option.map_some, if_true, Bool.false_eq_true, if_false, Bool.not_true, Bool.not_false, Eg.v_chain, Eg.v_op2, Eg.v_txt, Eg.v_tt, Eg.v_tl, Eg.v_go0, Eg.v_go1, Eg.isT, Eg.isF, Eg.notT, Eg.notF, Eg.v_truB, Eg.v_truI, Eg.v_truL, Eg.v_truT, Eg.v_truN, Eg.v_andV, Eg.v_orV, Eg.v_notV, Eg.v_neg, Eg.tp0, Eg.tp1, Eg.tp2, Eg.tp3, Eg.tp4, Eg.tp5, Eg.tp6, Eg.tp7, Eg.ls0, Eg.ls1, Eg.ls2, Eg.ls3, Eg.ls4, Eg.ls5, Eg.ls6, Eg.ls7, Eg.tuL, Eg.tuT, decide_true, decide_false, Eg.v_sl, Eg.gLen_list, Eg.gLen_tup, Eg.gGt_int, Eg.gLt_int, Eg.gGe_int, Eg.gLe_int, Eg.gEq_int, Eg.gNe_int, Eg.aAdd_int, Eg.v_app2, Eg.gNe_strR, Eg.gEq_strR, List.isEmpty_nil, List.isEmpty_cons, Bool.true_and, Bool.false_and, Bool.and_true, Bool.and_false, eq_self, Option.getD_some, Eg.isN_n, Eg.isN_t, Eg.isN_l, Eg.isN_s, Eg.isN_i, Eg.isN_b, Eg.notN_n, Eg.notN_t, Eg.notN_l, Eg.notN_s, Eg.notN_i, Eg.notN_b, Eg.ix_t0, Eg.ix_t1, Eg.ix_t2, Eg.ix_t3, Eg.ix_t4, Eg.ix_t5, Eg.ix_t6, Eg.tyIs_int_int, Eg.tyNot_int_int, Eg.tyIs_int_bool, Eg.tyNot_int_bool, Eg.tyIs_int_str, Eg.tyNot_int_str, Eg.tyIs_int_list, Eg.tyNot_int_list, Eg.tyIs_int_tuple, Eg.tyNot_int_tuple, Eg.tyIs_int_NoneType, Eg.tyNot_int_NoneType, Eg.tyIs_bool_int, Eg.tyNot_bool_int, Eg.tyIs_bool_bool, Eg.tyNot_bool_bool, Eg.tyIs_bool_str, Eg.tyNot_bool_str, Eg.tyIs_bool_list, Eg.tyNot_bool_list, Eg.tyIs_bool_tuple, Eg.tyNot_bool_tuple, Eg.tyIs_bool_NoneType, Eg.tyNot_bool_NoneType, Eg.tyIs_str_int, Eg.tyNot_str_int, Eg.tyIs_str_bool, Eg.tyNot_str_bool, Eg.tyIs_str_str, Eg.tyNot_str_str, Eg.tyIs_str_list, Eg.tyNot_str_list, Eg.tyIs_str_tuple, Eg.tyNot_str_tuple, Eg.tyIs_str_NoneType, Eg.tyNot_str_NoneType, Eg.tyIs_list_int, Eg.tyNot_list_int, Eg.tyIs_list_bool, Eg.tyNot_list_bool, Eg.tyIs_list_str, Eg.tyNot_list_str, Eg.tyIs_list_list, Eg.tyNot_list_list, Eg.tyIs_list_tuple, Eg.tyNot_list_tuple, Eg.tyIs_list_NoneType, Eg.tyNot_list_NoneType, Eg.tyIs_tuple_int, Eg.tyNot_tuple_int, Eg.tyIs_tuple_bool, Eg.tyNot_tuple_bool, Eg.tyIs_tuple_str, Eg.tyNot_tuple_str, Eg.tyIs_tuple_list, Eg.tyNot_tuple_list, Eg.tyIs_tuple_tuple, Eg.tyNot_tuple_tuple, Eg.tyIs_tuple_NoneType, Eg.tyNot_tuple_NoneType, $ls,*])

namespace Eg
open PySem L2 PySem.W PySem.SeqAt
/-! ## any thing: how long it is written at most, how deep it is -/
mutual
def wt : PyData → Nat
  | .none => 4
  | .bool _ => 5
  | .int i => (PyData.int i).shown.length
  | .str x => (PyData.str x).shown.length + x.length + 2
  | .list ds => wtAll ds + 3
  | .tuple ds => wtAll ds + 3
  | .dict _ => 0
def wtAll : List PyData → Nat
  | [] => 0
  | d :: ds => wt d + 2 + wtAll ds
end
mutual
def good (m : Nat) : PyData → Bool
  | .none => true
  | .bool _ => true
  | .int i => decide (i.natAbs < 10 ^ m)
  | .str _ => true
  | .list ds => goodAll m ds
  | .tuple ds => goodAll m ds
  | .dict _ => false
def goodAll (m : Nat) : List PyData → Bool
  | [] => true
  | d :: ds => good m d && goodAll m ds
end
theorem goodAll_mem {m : Nat} : ∀ {ds : List PyData}, goodAll m ds = true ↔ ∀ d ∈ ds, good m d = true
  | [] => by simp [goodAll]
  | d :: ds => by
    have := goodAll_mem (m := m) (ds := ds)
    simp [goodAll, this]
mutual
theorem good_mono {m m' : Nat} (h : m ≤ m') : ∀ d : PyData, good m d = true → good m' d = true
  | .none, _ => by rw [good]
  | .bool _, _ => by rw [good]
  | .str _, _ => by rw [good]
  | .int i, g => by
    rw [good] at g ⊢
    exact decide_eq_true (Nat.lt_of_lt_of_le (of_decide_eq_true g) (Nat.pow_le_pow_right (by decide) h))
  | .list ds, g => by rw [good] at g ⊢; exact goodAll_mono h ds g
  | .tuple ds, g => by rw [good] at g ⊢; exact goodAll_mono h ds g
  | .dict _, g => by simp [good] at g
theorem goodAll_mono {m m' : Nat} (h : m ≤ m') : ∀ ds : List PyData, goodAll m ds = true → goodAll m' ds = true
  | [], _ => by rw [goodAll]
  | d :: ds, g => by
    rw [goodAll, Bool.and_eq_true] at g ⊢
    exact ⟨good_mono h d g.1, goodAll_mono h ds g.2⟩
end
theorem wtAll_mem : ∀ {ds : List PyData} {d : PyData}, d ∈ ds → wt d + 2 ≤ wtAll ds
  | e :: ds, d, h => by
    simp only [wtAll]
    rcases List.mem_cons.mp h with rfl | h
    · omega
    · have := wtAll_mem h; omega
theorem wtAll_append : ∀ (ds es : List PyData), wtAll (ds ++ es) = wtAll ds + wtAll es
  | [], es => by simp [wtAll]
  | d :: ds, es => by simp [wtAll, wtAll_append ds es]; omega
theorem wtAll_len : ∀ ds : List PyData, 2 * ds.length ≤ wtAll ds
  | [] => by simp [wtAll]
  | d :: ds => by have := wtAll_len ds; simp [wtAll]; omega
theorem wtAll_reverse (ds : List PyData) : wtAll ds.reverse = wtAll ds := by
  induction ds with
  | nil => rfl
  | cons d ds ih => rw [List.reverse_cons, wtAll_append, ih]; simp [wtAll]; omega
theorem wtAll_sub {ds es : List PyData} (h : List.Sublist ds es) : wtAll ds ≤ wtAll es := by
  induction h with
  | slnil => exact Nat.le_refl _
  | cons a _ ih => simp only [wtAll]; omega
  | cons_cons a _ ih => simp only [wtAll]; omega
mutual
theorem shown_wt {m : Nat} (hm : m ≤ 400) : ∀ d : PyData, good m d = true → d.shown.length ≤ wt d ∧ d.showable = true ∧ alike d d = true
  | .none, _ => by refine ⟨by decide +kernel, by rw [PyData.showable], by simp [alike]⟩
  | .bool b, _ => by cases b <;> exact ⟨by decide +kernel, by rw [PyData.showable], by simp [alike]⟩
  | .int i, h => by
    rw [good] at h
    have f := Fd.int (n := 400) (i := i) (Nat.lt_of_lt_of_le (of_decide_eq_true h) (Nat.pow_le_pow_right (by decide) hm))
    exact ⟨by rw [wt]; exact Nat.le_refl _, f.1.1, f.2⟩
  | .str x, _ => ⟨by rw [wt]; omega, by rw [PyData.showable], by simp [alike]⟩
  | .list ds, h => by
    rw [good] at h
    have := shown_wtAll hm ds h
    refine ⟨?_, by rw [PyData.showable]; exact this.2.1, by rw [alike]; exact this.2.2⟩
    rw [PyData.shown, wt]
    have h1 := listText_most (PyData.shownAll ds)
    omega
  | .tuple ds, h => by
    rw [good] at h
    have := shown_wtAll hm ds h
    refine ⟨?_, by rw [PyData.showable]; exact this.2.1, by rw [alike]; exact this.2.2⟩
    rw [PyData.shown, wt]
    have h1 := tupleText_most (PyData.shownAll ds)
    omega
  | .dict _, h => by simp [good] at h
theorem shown_wtAll {m : Nat} (hm : m ≤ 400) : ∀ ds : List PyData, goodAll m ds = true → PySem.piled (PyData.shownAll ds) ≤ wtAll ds ∧ PyData.showableAll ds = true ∧ alikeAll ds ds = true
  | [], _ => by simp [PyData.shownAll, PySem.piled, PyData.showableAll, alikeAll]
  | d :: ds, h => by
    rw [goodAll, Bool.and_eq_true] at h
    have h1 := shown_wt hm d h.1
    have h2 := shown_wtAll hm ds h.2
    refine ⟨?_, ?_, ?_⟩
    · rw [PyData.shownAll, PySem.piled_cons, wtAll]; omega
    · rw [PyData.showableAll, h1.2.1, h2.2.1]; rfl
    · rw [alikeAll, h1.2.2, h2.2.2]; rfl
end
structure Th (m n k : Nat) (d : PyData) : Prop where
  w : wt d ≤ n
  k : d.depth ≤ k
  g : good m d = true
  m : m ≤ 400
theorem Th.fd {m n k : Nat} {d : PyData} (h : Th m n k d) : Fd n k d := ⟨⟨(shown_wt h.m d h.g).2.1, Nat.le_trans (shown_wt h.m d h.g).1 h.w, h.k⟩, (shown_wt h.m d h.g).2.2⟩
theorem Th.mono {m m' n n' k k' : Nat} {d : PyData} (h : Th m n k d) (hn : n ≤ n') (hk : k ≤ k') (hm : m ≤ m' := by omega) (h4 : m' ≤ 400 := by omega) : Th m' n' k' d := ⟨Nat.le_trans h.w hn, Nat.le_trans h.k hk, good_mono hm d h.g, h4⟩
theorem depthAll_mem : ∀ {ds : List PyData} {d : PyData}, d ∈ ds → d.depth ≤ PyData.depthAll ds
  | e :: ds, d, h => by
    simp only [PyData.depthAll]
    rcases List.mem_cons.mp h with rfl | h
    · omega
    · have := depthAll_mem h; omega
/-- of several things together -/
structure Ths (m n k : Nat) (ds : List PyData) : Prop where
  w : wtAll ds ≤ n
  k : ∀ d ∈ ds, d.depth ≤ k
  g : ∀ d ∈ ds, good m d = true
  m : m ≤ 400
theorem Ths.nil {m n k : Nat} (hm : m ≤ 400) : Ths m n k [] := ⟨Nat.zero_le _, (fun d h => by cases h), (fun d h => by cases h), hm⟩
theorem Ths.cons {m n n' k : Nat} {d : PyData} {ds : List PyData} (h : Th m n k d) (t : Ths m n' k ds) : Ths m (n + 2 + n') k (d :: ds) :=
  ⟨by have := h.w; have := t.w; simp only [wtAll]; omega, fun x hx => by
    rcases List.mem_cons.mp hx with rfl | hx
    · exact h.k
    · exact t.k x hx, fun x hx => by
    rcases List.mem_cons.mp hx with rfl | hx
    · exact h.g
    · exact t.g x hx, h.m⟩
theorem Ths.mono {m m' n n' k k' : Nat} {ds : List PyData} (h : Ths m n k ds) (hn : n ≤ n') (hk : k ≤ k') (hm : m ≤ m' := by omega) (h4 : m' ≤ 400 := by omega) : Ths m' n' k' ds := ⟨Nat.le_trans h.w hn, fun d hd => Nat.le_trans (h.k d hd) hk, fun d hd => good_mono hm d (h.g d hd), h4⟩
theorem Ths.append {m n n' k : Nat} {ds es : List PyData} (h : Ths m n k ds) (t : Ths m n' k es) : Ths m (n + n') k (ds ++ es) :=
  ⟨by rw [wtAll_append]; have := h.w; have := t.w; omega, fun x hx => (List.mem_append.mp hx).elim (h.k x) (t.k x), fun x hx => (List.mem_append.mp hx).elim (h.g x) (t.g x), h.m⟩
theorem Ths.sub {m n k : Nat} {ds es : List PyData} (h : Ths m n k ds) (s : List.Sublist es ds) : Ths m n k es := ⟨Nat.le_trans (wtAll_sub s) h.w, fun d hd => h.k d (s.mem hd), fun d hd => h.g d (s.mem hd), h.m⟩
theorem Ths.rev {m n k : Nat} {ds : List PyData} (h : Ths m n k ds) : Ths m n k ds.reverse := ⟨by rw [wtAll_reverse]; exact h.w, fun d hd => h.k d (List.mem_reverse.mp hd), fun d hd => h.g d (List.mem_reverse.mp hd), h.m⟩
theorem Ths.len {m n k : Nat} {ds : List PyData} (h : Ths m n k ds) : 2 * ds.length ≤ n := Nat.le_trans (wtAll_len ds) h.w
theorem Ths.mem {m n k : Nat} {ds : List PyData} {d : PyData} (h : Ths m n k ds) (hd : d ∈ ds) : Th m n k d := ⟨by have := wtAll_mem hd; have := h.w; omega, h.k d hd, h.g d hd, h.m⟩
theorem Ths.of {m k : Nat} {ds : List PyData} (hk : ∀ d ∈ ds, d.depth ≤ k) (hg : ∀ d ∈ ds, good m d = true) (hm : m ≤ 400) : Ths m (wtAll ds) k ds := ⟨Nat.le_refl _, hk, hg, hm⟩
theorem Ths.tup {m n k : Nat} {ds : List PyData} (h : Ths m n k ds) : Th m (n + 3) (k + 1) (.tuple ds) := ⟨by rw [wt]; have := h.w; omega, by rw [PyData.depth]; have := depth_all k h.k; omega, by rw [good]; exact goodAll_mem.mpr h.g, h.m⟩
theorem Ths.lst {m n k : Nat} {ds : List PyData} (h : Ths m n k ds) : Th m (n + 3) (k + 1) (.list ds) := ⟨by rw [wt]; have := h.w; omega, by rw [PyData.depth]; have := depth_all k h.k; omega, by rw [good]; exact goodAll_mem.mpr h.g, h.m⟩
theorem Th.ofTup {m n k : Nat} {ds : List PyData} (h : Th m n k (.tuple ds)) : 3 ≤ n ∧ 1 ≤ k ∧ Ths m (n - 3) (k - 1) ds := by
  have hw := h.w
  have hk := h.k
  have hg := h.g
  rw [wt] at hw
  rw [PyData.depth] at hk
  rw [good] at hg
  exact ⟨by omega, by omega, by omega, fun d hd => by have := depthAll_mem hd; omega, goodAll_mem.mp hg, h.m⟩
theorem Th.ofLst {m n k : Nat} {ds : List PyData} (h : Th m n k (.list ds)) : 3 ≤ n ∧ 1 ≤ k ∧ Ths m (n - 3) (k - 1) ds := by
  have hw := h.w
  have hk := h.k
  have hg := h.g
  rw [wt] at hw
  rw [PyData.depth] at hk
  rw [good] at hg
  exact ⟨by omega, by omega, by omega, fun d hd => by have := depthAll_mem hd; omega, goodAll_mem.mp hg, h.m⟩
theorem Th.int {m n : Nat} {i : Int} (h : i.natAbs < 10 ^ n) (hn : n ≤ m) (hm : m ≤ 400) (h0 : 0 < n := by decide) : Th m (n + 1) 0 (.int i) := by
  have f := Fd.int h h0 (Nat.le_trans hn hm)
  refine ⟨by rw [wt]; exact f.1.2.1, by rw [PyData.depth]; exact Nat.le_refl _, ?_, hm⟩
  rw [good]
  exact decide_eq_true (Nat.lt_of_lt_of_le h (Nat.pow_le_pow_right (by decide) hn))
theorem Th.str {m n : Nat} {x : Str} (h : (reprText x).length + x.length ≤ n) (hm : m ≤ 400) : Th m (n + 2) 0 (.str x) := ⟨by rw [wt, PyData.shown]; omega, by rw [PyData.depth]; exact Nat.le_refl _, by rw [good], hm⟩
theorem Th.bool {m : Nat} (b : Bool) (hm : m ≤ 400) : Th m 5 0 (.bool b) := ⟨by rw [wt]; exact Nat.le_refl _, by rw [PyData.depth]; exact Nat.le_refl _, by rw [good], hm⟩
theorem Th.none {m : Nat} (hm : m ≤ 400) : Th m 4 0 .none := ⟨by rw [wt]; exact Nat.le_refl _, by rw [PyData.depth]; exact Nat.le_refl _, by rw [good], hm⟩
theorem Th.tyName {m n k : Nat} {d : PyData} (h : Th m n k d) : ∃ U, tyName d = some U := by
  cases d with
  | dict kvs => have := h.g; simp [good] at this
  | _ => exact ⟨_, rfl⟩
/-- a check by computing -/
def thB (m n k : Nat) (d : PyData) : Bool := decide (wt d ≤ n) && decide (d.depth ≤ k) && good m d
theorem Th.ofB {m n k : Nat} {d : PyData} (h : thB m n k d = true) (hm : m ≤ 400) : Th m n k d := by
  simp only [thB, Bool.and_eq_true, decide_eq_true_eq] at h
  exact ⟨h.1.1, h.1.2, h.2, hm⟩
/-- a number's figures -/
theorem Th.figs {m n k : Nat} {i : Int} (h : Th m n k (.int i)) : i.natAbs < 10 ^ m := by have := h.g; rw [good] at this; exact of_decide_eq_true this
/-! ## isinstance, computed -/
theorem isi_i (i : Int) : gIsi "int" (.int i) = some (.bool true) := by
  show Option.map PyData.bool (kitB "int" "int") = _
  rw [show kitB "int" "int" = some true by decide +kernel]; rfl
theorem isi_b (i : Bool) : gIsi "int" (.bool i) = some (.bool true) := by
  show Option.map PyData.bool (kitB "bool" "int") = _
  rw [show kitB "bool" "int" = some true by decide +kernel]; rfl
theorem isi_s (i : Str) : gIsi "int" (.str i) = some (.bool false) := by
  show Option.map PyData.bool (kitB "str" "int") = _
  rw [show kitB "str" "int" = some false by decide +kernel]; rfl
theorem isi_n : gIsi "int" .none = some (.bool false) := by
  show Option.map PyData.bool (kitB "NoneType" "int") = _
  rw [show kitB "NoneType" "int" = some false by decide +kernel]; rfl
theorem isi_l (i : List PyData) : gIsi "int" (.list i) = some (.bool false) := by
  show Option.map PyData.bool (kitB "list" "int") = _
  rw [show kitB "list" "int" = some false by decide +kernel]; rfl
theorem isi_t (i : List PyData) : gIsi "int" (.tuple i) = some (.bool false) := by
  show Option.map PyData.bool (kitB "tuple" "int") = _
  rw [show kitB "tuple" "int" = some false by decide +kernel]; rfl
theorem isbool_i (i : Int) : gIsi "bool" (.int i) = some (.bool false) := by
  show Option.map PyData.bool (kitB "int" "bool") = _
  rw [show kitB "int" "bool" = some false by decide +kernel]; rfl
theorem isbool_b (i : Bool) : gIsi "bool" (.bool i) = some (.bool true) := by
  show Option.map PyData.bool (kitB "bool" "bool") = _
  rw [show kitB "bool" "bool" = some true by decide +kernel]; rfl
theorem isbool_s (i : Str) : gIsi "bool" (.str i) = some (.bool false) := by
  show Option.map PyData.bool (kitB "str" "bool") = _
  rw [show kitB "str" "bool" = some false by decide +kernel]; rfl
theorem isbool_n : gIsi "bool" (.none) = some (.bool false) := by
  show Option.map PyData.bool (kitB "NoneType" "bool") = _
  rw [show kitB "NoneType" "bool" = some false by decide +kernel]; rfl
theorem isbool_l (i : List PyData) : gIsi "bool" (.list i) = some (.bool false) := by
  show Option.map PyData.bool (kitB "list" "bool") = _
  rw [show kitB "list" "bool" = some false by decide +kernel]; rfl
theorem isbool_t (i : List PyData) : gIsi "bool" (.tuple i) = some (.bool false) := by
  show Option.map PyData.bool (kitB "tuple" "bool") = _
  rw [show kitB "tuple" "bool" = some false by decide +kernel]; rfl
theorem isstr_i (i : Int) : gIsi "str" (.int i) = some (.bool false) := by
  show Option.map PyData.bool (kitB "int" "str") = _
  rw [show kitB "int" "str" = some false by decide +kernel]; rfl
theorem isstr_b (i : Bool) : gIsi "str" (.bool i) = some (.bool false) := by
  show Option.map PyData.bool (kitB "bool" "str") = _
  rw [show kitB "bool" "str" = some false by decide +kernel]; rfl
theorem isstr_s (i : Str) : gIsi "str" (.str i) = some (.bool true) := by
  show Option.map PyData.bool (kitB "str" "str") = _
  rw [show kitB "str" "str" = some true by decide +kernel]; rfl
theorem isstr_n : gIsi "str" (.none) = some (.bool false) := by
  show Option.map PyData.bool (kitB "NoneType" "str") = _
  rw [show kitB "NoneType" "str" = some false by decide +kernel]; rfl
theorem isstr_l (i : List PyData) : gIsi "str" (.list i) = some (.bool false) := by
  show Option.map PyData.bool (kitB "list" "str") = _
  rw [show kitB "list" "str" = some false by decide +kernel]; rfl
theorem isstr_t (i : List PyData) : gIsi "str" (.tuple i) = some (.bool false) := by
  show Option.map PyData.bool (kitB "tuple" "str") = _
  rw [show kitB "tuple" "str" = some false by decide +kernel]; rfl
theorem islist_i (i : Int) : gIsi "list" (.int i) = some (.bool false) := by
  show Option.map PyData.bool (kitB "int" "list") = _
  rw [show kitB "int" "list" = some false by decide +kernel]; rfl
theorem islist_b (i : Bool) : gIsi "list" (.bool i) = some (.bool false) := by
  show Option.map PyData.bool (kitB "bool" "list") = _
  rw [show kitB "bool" "list" = some false by decide +kernel]; rfl
theorem islist_s (i : Str) : gIsi "list" (.str i) = some (.bool false) := by
  show Option.map PyData.bool (kitB "str" "list") = _
  rw [show kitB "str" "list" = some false by decide +kernel]; rfl
theorem islist_n : gIsi "list" (.none) = some (.bool false) := by
  show Option.map PyData.bool (kitB "NoneType" "list") = _
  rw [show kitB "NoneType" "list" = some false by decide +kernel]; rfl
theorem islist_l (i : List PyData) : gIsi "list" (.list i) = some (.bool true) := by
  show Option.map PyData.bool (kitB "list" "list") = _
  rw [show kitB "list" "list" = some true by decide +kernel]; rfl
theorem islist_t (i : List PyData) : gIsi "list" (.tuple i) = some (.bool false) := by
  show Option.map PyData.bool (kitB "tuple" "list") = _
  rw [show kitB "tuple" "list" = some false by decide +kernel]; rfl
theorem istuple_i (i : Int) : gIsi "tuple" (.int i) = some (.bool false) := by
  show Option.map PyData.bool (kitB "int" "tuple") = _
  rw [show kitB "int" "tuple" = some false by decide +kernel]; rfl
theorem istuple_b (i : Bool) : gIsi "tuple" (.bool i) = some (.bool false) := by
  show Option.map PyData.bool (kitB "bool" "tuple") = _
  rw [show kitB "bool" "tuple" = some false by decide +kernel]; rfl
theorem istuple_s (i : Str) : gIsi "tuple" (.str i) = some (.bool false) := by
  show Option.map PyData.bool (kitB "str" "tuple") = _
  rw [show kitB "str" "tuple" = some false by decide +kernel]; rfl
theorem istuple_n : gIsi "tuple" (.none) = some (.bool false) := by
  show Option.map PyData.bool (kitB "NoneType" "tuple") = _
  rw [show kitB "NoneType" "tuple" = some false by decide +kernel]; rfl
theorem istuple_l (i : List PyData) : gIsi "tuple" (.list i) = some (.bool false) := by
  show Option.map PyData.bool (kitB "list" "tuple") = _
  rw [show kitB "list" "tuple" = some false by decide +kernel]; rfl
theorem istuple_t (i : List PyData) : gIsi "tuple" (.tuple i) = some (.bool true) := by
  show Option.map PyData.bool (kitB "tuple" "tuple") = _
  rw [show kitB "tuple" "tuple" = some true by decide +kernel]; rfl
theorem gSub_int (a b : Int) : Eg.gSub (.int a) (.int b) = some (.int (a - b)) := rfl
theorem v_coOl {ρ : Rho} (i : Nat) (f : Fn) (xs : List PyData) (os : List OD) : coO (some (some (.ol xs))) i f (some os) ρ = coR i ρ (f (some (.ol xs) :: os.map some)) := rfl
end Eg
local macro_rules | `(tactic| simp?! only [$ls,*]) => `(tactic| simp -implicitDefEqProofs only [Eg.v_bind, Eg.v_go, Eg.v_ret, Eg.v_get, Eg.v_lift, Eg.v_opt, Eg.v_seq, Eg.v_sqn, Eg.v_sqr, Eg.v_sqb, Eg.v_sqc, Eg.v_set, Eg.v_sret, Eg.v_if, Eg.v_mif, Eg.v_next, Eg.v_expr, Eg.v_dat, Eg.v_slot, Eg.v_sd, Eg.v_so, Eg.v_m2, Eg.v_m2k, Eg.v_m1, Eg.v_m1k, Eg.v_mL, Eg.v_mLk, Eg.v_rl0, Eg.v_rl1, Eg.v_nil, Eg.v_cons, Eg.v_fix, Eg.v_fix0, Eg.v_fix1, Eg.v_fzs, Eg.v_fzo, Eg.v_ab, Eg.v_not, Eg.v_and, Eg.v_or, Eg.v_ai, Eg.v_fn, Eg.v_fin, Eg.v_fin2, Eg.v_kp0, Eg.v_kpt, Eg.v_kpf, Eg.v_slo, Eg.v_mslot, Eg.v_name, Eg.v_nms, Eg.v_nmo, Eg.v_take, Eg.v_tks, Eg.v_tko, Eg.v_has, Eg.v_hask, Eg.v_dget, Eg.v_dgk, Eg.v_dgo, Eg.v_put, Eg.v_putk, Eg.v_puto, Eg.v_app, Eg.v_apo, Eg.v_ol, Eg.v_olk, Eg.v_callO, Eg.v_coK, Eg.v_coO, Eg.v_coR, Eg.v_as0, Eg.v_asd, Eg.v_ass, Eg.v_asod, Eg.v_asoc, Eg.v_ason, Eg.v_call, Eg.v_caO, Eg.v_caR, Eg.v_for, Eg.v_lpO, Eg.v_lpn, Eg.v_lpr, Eg.v_tn, Eg.v_sil, Eg.v_sit, Eg.v_par, Eg.v_un, List.map_cons, List.map_nil, List.getElem?_cons_zero, List.getElem?_cons_succ, List.set_cons_zero, List.set_cons_succ, List.replicate_succ, List.replicate_zero, List.cons_append, List.nil_append, Option.bind_eq_bind, Option.bind_some, Option.map_some, if_true, Bool.false_eq_true, if_false, Bool.not_true, Bool.not_false, Eg.v_chain, Eg.v_op2, Eg.v_txt, Eg.v_tt, Eg.v_tl, Eg.v_go0, Eg.v_go1, Eg.isT, Eg.isF, Eg.notT, Eg.notF, Eg.v_truB, Eg.v_truI, Eg.v_truL, Eg.v_truT, Eg.v_truN, Eg.v_andV, Eg.v_orV, Eg.v_notV, Eg.v_neg, Eg.tp0, Eg.tp1, Eg.tp2, Eg.tp3, Eg.tp4, Eg.tp5, Eg.tp6, Eg.tp7, Eg.ls0, Eg.ls1, Eg.ls2, Eg.ls3, Eg.ls4, Eg.ls5, Eg.ls6, Eg.ls7, Eg.tuL, Eg.tuT, decide_true, decide_false, Eg.v_sl, Eg.gLen_list, Eg.gLen_tup, Eg.gGt_int, Eg.gLt_int, Eg.gGe_int, Eg.gLe_int, Eg.gEq_int, Eg.gNe_int, Eg.aAdd_int, Eg.v_app2, Eg.gNe_strR, Eg.gEq_strR, List.isEmpty_nil, List.isEmpty_cons, Bool.true_and, Bool.false_and, Bool.and_true, Bool.and_false, eq_self, Option.getD_some, Eg.isN_n, Eg.isN_t, Eg.isN_l, Eg.isN_s, Eg.isN_i, Eg.isN_b, Eg.notN_n, Eg.notN_t, Eg.notN_l, Eg.notN_s, Eg.notN_i, Eg.notN_b, Eg.ix_t0, Eg.ix_t1, Eg.ix_t2, Eg.ix_t3, Eg.ix_t4, Eg.ix_t5, Eg.ix_t6, Eg.tyIs_int_int, Eg.tyNot_int_int, Eg.tyIs_int_bool, Eg.tyNot_int_bool, Eg.tyIs_int_str, Eg.tyNot_int_str, Eg.tyIs_int_list, Eg.tyNot_int_list, Eg.tyIs_int_tuple, Eg.tyNot_int_tuple, Eg.tyIs_int_NoneType, Eg.tyNot_int_NoneType, Eg.tyIs_bool_int, Eg.tyNot_bool_int, Eg.tyIs_bool_bool, Eg.tyNot_bool_bool, Eg.tyIs_bool_str, Eg.tyNot_bool_str, Eg.tyIs_bool_list, Eg.tyNot_bool_list, Eg.tyIs_bool_tuple, Eg.tyNot_bool_tuple, Eg.tyIs_bool_NoneType, Eg.tyNot_bool_NoneType, Eg.tyIs_str_int, Eg.tyNot_str_int, Eg.tyIs_str_bool, Eg.tyNot_str_bool, Eg.tyIs_str_str, Eg.tyNot_str_str, Eg.tyIs_str_list, Eg.tyNot_str_list, Eg.tyIs_str_tuple, Eg.tyNot_str_tuple, Eg.tyIs_str_NoneType, Eg.tyNot_str_NoneType, Eg.tyIs_list_int, Eg.tyNot_list_int, Eg.tyIs_list_bool, Eg.tyNot_list_bool, Eg.tyIs_list_str, Eg.tyNot_list_str, Eg.tyIs_list_list, Eg.tyNot_list_list, Eg.tyIs_list_tuple, Eg.tyNot_list_tuple, Eg.tyIs_list_NoneType, Eg.tyNot_list_NoneType, Eg.tyIs_tuple_int, Eg.tyNot_tuple_int, Eg.tyIs_tuple_bool, Eg.tyNot_tuple_bool, Eg.tyIs_tuple_str, Eg.tyNot_tuple_str, Eg.tyIs_tuple_list, Eg.tyNot_tuple_list, Eg.tyIs_tuple_tuple, Eg.tyNot_tuple_tuple, Eg.tyIs_tuple_NoneType, Eg.tyNot_tuple_NoneType, Eg.v_ext, Eg.v_putL, Eg.v_pick, Eg.v_pk0, Eg.v_pkl, Eg.v_pkr, List.getD_cons_zero, List.getD_cons_succ, Eg.v_coOl, Eg.gSub_int, Eg.isi_i, Eg.isi_b, Eg.isi_s, Eg.isi_n, Eg.isi_l, Eg.isi_t, Eg.isbool_i, Eg.isbool_b, Eg.isbool_s, Eg.isbool_n, Eg.isbool_l, Eg.isbool_t, Eg.isstr_i, Eg.isstr_b, Eg.isstr_s, Eg.isstr_n, Eg.isstr_l, Eg.isstr_t, Eg.islist_i, Eg.islist_b, Eg.islist_s, Eg.islist_n, Eg.islist_l, Eg.islist_t, Eg.istuple_i, Eg.istuple_b, Eg.istuple_s, Eg.istuple_n, Eg.istuple_l, Eg.istuple_t, $ls,*])

namespace HT
open PySem PySem.Spec PyProof.Rows
section
variable {prog : Program} {w : World} {A : Around} {E : Value → Shared → Prop} {s : Shared}
theorem eg_adjust (n : Nat) : Builtin.Slice.sliceAdjust none none (-1) (n : Int) = ((n : Int) - 1, -1) := by
  first
  | rfl
  | (unfold Builtin.Slice.sliceAdjust; simp)
theorem eg_places (n : Nat) : Builtin.Slice.slicePlaces ((n : Int) - 1) (-1) (-1) = n := by
  unfold Builtin.Slice.slicePlaces
  by_cases h : n = 0
  · subst h; decide
  · simp
    omega
theorem eg_sliceApplied_rev {sl : Addr} {vs : Value} {n : Nat} {Q : Int × Int × Nat → Shared → Prop} (hs : s.heap.IsSliceOf sl .none .none vs) (ps : IsPart vs (some (-1)))
    (h : Q ((n : Int) - 1, -1, n) s) : wpAny (model prog w) A (Builtin.Slice.sliceApplied (.ref sl) (pure (n : Int))) Q E s := by
  obtain ⟨os, hos, hcs, hds⟩ := id hs
  unfold Builtin.Slice.sliceApplied Builtin.Slice.sliceFields
  refine wpAny_bind (wpAny_bind (wpAny_field hos hds (x := .none) rfl (wpAny_bind (wpAny_field hos hds (x := .none) rfl (wpAny_bind (wpAny_field hos hds (x := vs) rfl (wpAny_pure ?_)))))))
  refine wpAny_bind (slicePart_ ps ?_)
  show wpAny _ _ (if ((-1 : Int) == 0) = true then _ else _) _ _ s
  rw [if_neg (by decide)]
  refine wpAny_bind (slicePart_ .none (wpAny_bind (slicePart_ .none (wpAny_bind (wpAny_pure ?_)))))
  show wpAny _ _ (match Builtin.Slice.sliceAdjust none none (-1) (n : Int) with | (lo, hi) => pure (lo, (-1 : Int), Builtin.Slice.slicePlaces lo hi (-1))) _ _ s
  rw [eg_adjust]
  show wpAny _ _ (pure ((n : Int) - 1, (-1 : Int), Builtin.Slice.slicePlaces ((n : Int) - 1) (-1) (-1))) _ _ s
  rw [eg_places]
  exact wpAny_pure h
theorem eg_filterMap {α β : Type} {f g : α → Option β} : ∀ {l : List α}, (∀ m ∈ l, f m = g m) → l.filterMap f = l.filterMap g
  | [], _ => rfl
  | a :: l, h => by
    rw [List.filterMap_cons, List.filterMap_cons, h a List.mem_cons_self, eg_filterMap fun m hm => h m (List.mem_cons_of_mem _ hm)]
theorem eg_pick_rev (xs : Array Value) : ((List.range xs.size).filterMap fun (m : Nat) => xs[(((xs.size : Nat) : Int) - 1 + (m : Int) * (-1)).toNat]?).toArray = xs.toList.reverse.toArray := by
  have e : (List.range xs.size).filterMap (fun (m : Nat) => xs[(((xs.size : Nat) : Int) - 1 + (m : Int) * (-1)).toNat]?) = ((List.range xs.size).map (fun k => xs.size - 1 - k)).filterMap (xs[·]?) := by
    rw [List.filterMap_map]
    refine eg_filterMap fun m hm => ?_
    have hm := List.mem_range.mp hm
    have : (((xs.size : Nat) : Int) - 1 + (m : Int) * (-1)).toNat = xs.size - 1 - m := by omega
    rw [this]
    rfl
  rw [e, PySem.W.krv_range, List.filterMap_reverse, PySem.W.krv_all]
theorem eg_getItem_tuple_rev {t sl : Addr} {items : Array Value} {vs : Value} {Q : Value → Shared → Prop} (ht : IsTup s.heap t items) (hs : s.heap.IsSliceOf sl .none .none vs) (ps : IsPart vs (some (-1)))
    (h : Q (.ref s.heap.objs.size) { s with heap := s.heap.push { cls := .type "tuple", data := .seq items.toList.reverse.toArray } })
    (hsz : items.size ≤ sizeLine) : wpAny (model prog w) A (getItem (.ref t) (.ref sl)) Q E s := by
  have htake : sizeOk (.seq items.toList.reverse.toArray) := by
    show items.toList.reverse.toArray.size ≤ sizeLine
    rw [List.size_toArray, List.length_reverse, Array.length_toList]
    exact hsz
  obtain ⟨os, hos, hcs, hds⟩ := id hs
  have hTs : s.TypeIs (.ref sl) "slice" := ⟨os, hos, hcs⟩
  unfold getItem
  try with_reducible refine wpAny_holding ?_
  first | refine wpAny_bind (wpAny_pure ?_) | skip
  refine wpAny_bind (wpAny_sequenceKey ht.typeIs (by decide) ?_)
  refine wpAny_bind (wpAny_callSpecial?_slot (name := Str.ofString "__getitem__") ht.typeIs PyProof.Rows.slot_tuple_getitem
    (wpAny_call_entry PyProof.Rows.slot_tuple_getitem ht.typeIs entry_tuple_getitem ?_ (args_tuple_getitem _ _)))
  show wpAny _ _ (Builtin.Tuple.tupleItemsOf (.ref t) >>= _) _ _ s
  refine wpAny_bind (tupleItemsOf_ ht ?_)
  refine wpAny_bind (wpAny_typeOf hTs ?_)
  rw [if_pos (by decide)]
  refine wpAny_bind (eg_sliceApplied_rev hs ps ?_)
  have hno : ¬ ((((items.size : Nat) : Int) - 1 == 0 && (-1 : Int) == 1 && items.size == items.size) = true) := by
    intro q
    rw [Bool.and_eq_true, Bool.and_eq_true] at q
    exact absurd (eq_of_beq q.1.2) (by decide)
  show wpAny _ _ (if (((items.size : Nat) : Int) - 1 == 0 && (-1 : Int) == 1 && items.size == items.size) = true then _ else _) _ _ s
  rw [if_neg hno, eg_pick_rev]
  first
    | exact wpAny_bind (m := Builtin.Tuple.tupleExact _) (wpAny_newObj_type (wpAny_pure ⟨_, rfl, wpAny_pure h⟩) htake)
    | exact wpAny_bind (m := Builtin.Tuple.tupleExact _) (wpAny_newObj_type (wpAny_bind (wpAny_pure (wpAny_pure ⟨_, rfl, wpAny_pure h⟩))) htake)
    | exact wpAny_bind (wpAny_bind (m := Builtin.Tuple.tupleExact _) (wpAny_newObj_type (wpAny_pure (wpAny_pure ⟨_, rfl, wpAny_pure h⟩)) htake))
    | exact wpAny_bind (wpAny_bind (m := Builtin.Tuple.tupleExact _) (wpAny_newObj_type (wpAny_pure ⟨_, rfl, wpAny_pure h⟩) htake))
end
end HT
namespace L2
open PySem PySem.Spec PyProof.Rows
section
variable {X : Cx}
/-! ## xs[::-1] -/
def tRevB (K : PySem.W.Frag) (te : TE) : TE := fun σ H Q => te σ H fun x H1 => ∃ a xs, x = .ref a ∧ ((SqL K H1 a xs ∧ ∀ p, H1 p = none → Q (.ref p) (upd H1 p (.lst xs.reverse))) ∨ (SqT K H1 a xs ∧ ∀ p, H1 p = none → Q (.ref p) (upd H1 p (.tup xs.reverse))))
theorem pe_revB {e : Expr} {te : TE} {k : Nat} {p1 p2 p3 pos : Pos} (he : PE X e te) : PE X (.Subscript e (.Slice none none (some (.UnaryOp .USub (.Constant (.int 1) k p1) p2)) p3) pos) (tRevB X.K te) := by
  refine ⟨fun pins s σ H Q I h => ?_⟩
  refine Subscript_ (thn (he.run pins s σ H _ I h) fun v s1 ⟨x, H1, I1, r1, q1⟩ => ?_)
  obtain ⟨a, xs, ex, hq⟩ := q1
  subst ex
  cases r1
  have hst : PO X (some (.UnaryOp .USub (.Constant (.int 1) k p1) p2)) (tPart (tUn (rU fun i => .int (-i)) (tC (.int 1)))) := po_some (pe_un un_neg pe_int)
  refine wpAny_Slice (thn (po_none.run pins s1 σ H1 (fun o H2 => o = none ∧ H2 = H1) I1 ⟨rfl, rfl⟩) fun vl s2 ⟨l, H2, I2, pl, el, e2⟩ => ?_)
  subst el e2
  refine thn (po_none.run pins s2 σ H2 (fun o H3 => o = none ∧ H3 = H2) I2 ⟨rfl, rfl⟩) fun vu s3 ⟨u, H3, I3, pu, eu, e3⟩ => ?_
  subst eu e3
  refine thn (hst.run pins s3 σ H3 (fun o H4 => o = some (-1) ∧ H4 = H3) I3 ⟨1, rfl, -1, rfl, rfl, rfl⟩) fun vs s4 ⟨o, H4, I4, ps, eo, e4⟩ => ?_
  subst eo e4
  have I5 : Inv X pins σ H4 { s4 with heap := s4.heap.push { cls := .type "slice", data := .fields #[vl, vu, vs] } } := I4.kept (t' := s4.toks) fun b ob q => Heap.get?_push_of_some _ q
  show wpAny (model X.prog X.w) X.A (subscriptTail e (.Slice none none (some (.UnaryOp .USub (.Constant (.int 1) k p1) p2)) p3) (.ref a) (.ref s4.heap.objs.size)) (EP X pins σ Q) X.xe { s4 with heap := s4.heap.push { cls := .type "slice", data := .fields #[vl, vu, vs] } }
  rcases hq with ⟨hx, q⟩ | ⟨hx, q⟩
  · obtain ⟨its, r, ht, hz⟩ := I5.list hx
    have hlen := r.length
    refine tail_any (ops := [.ref a, .ref s4.heap.objs.size]) ht.isList.typeIs (PySem.slot_list_getitem.lookup) ?_ (by with_unfolding_all rfl)
    refine wpAny_getItem_list_slice ht.isList (Heap.IsSliceOf.new _ vl vu vs) pl pu ps (by decide) ?_ (by rw [List.size_toArray]; omega)
    rw [PySem.W.krv_pick]
    refine ⟨.ref _, _, I5.laid (t' := s4.toks) (o := .lst xs.reverse) (fun b ob q => Heap.get?_push_of_some _ q) (Nat.le_refl _) ?_, rfl, q _ (I5.hok.fresh (Nat.le_refl _))⟩
    exact ⟨by rw [List.length_reverse]; exact hz, _, 0, r.reverse, Heap.get?_push_size _ rfl⟩
  · obtain ⟨its, r, ht, hz⟩ := I5.tuple hx
    have hlen := r.length
    cases pl
    cases pu
    refine tail_any (ops := [.ref a, .ref s4.heap.objs.size]) ht.typeIs (PyProof.Rows.slot_tuple_getitem.lookup) ?_ (by with_unfolding_all rfl)
    refine HT.eg_getItem_tuple_rev ht (Heap.IsSliceOf.new _ .none .none vs) ps ?_ (by rw [List.size_toArray]; omega)
    refine ⟨.ref _, _, I5.laid (t' := s4.toks) (o := .tup xs.reverse) (fun b ob q => Heap.get?_push_of_some _ q) (Nat.le_refl _) ?_, rfl, q _ (I5.hok.fresh (Nat.le_refl _))⟩
    exact ⟨by rw [List.length_reverse]; exact hz, _, r.reverse, IsTup.new _ _⟩
end
end L2
namespace Eg
open PySem L2 PySem.W PySem.SeqAt
section
variable {X : Cx} {C : Ct} {e a b c o tg iter : Expr} {es : List Expr} {pos p p1 p2 p3 apos cpos pos' : Pos} {P : List Nat} {σ σ1 : St} {ρ ρ1 : Rho} {F H F1 H1 : Hp}
def gRev2 : PyData → Option OD
  | .list ds => some (.ol ds.reverse)
  | .tuple ds => some (.sh (.tuple ds.reverse))
  | _ => none
theorem o_rev2 {k : Nat} {p1 p3 : Pos} {ma : M Arg} (ha : PE X a (tA C ma)) (hK : X.KW = C.K := by rfl) : PE X (.Subscript a (.Slice none none (some (.UnaryOp .USub (.Constant (.int 1) k p1) p2)) p3) pos) (tO C (m1 gRev2 ma)) := by
  refine (pe_revB ha).imp fun σ H Q ⟨F, ρ, sr, p⟩ => ?_
  refine one sr stb_O p fun x a ρ1 F1 H1 s1 g1 r1 q1 => ?_
  obtain ⟨o, eo, q⟩ := lift_some q1
  cases ea : res1 ρ1 a with
  | none => rw [ea] at eo; cases eo
  | some d =>
    rw [ea] at eo
    have vw := rA.view (ρ0 := ρ) (H0 := H) s1 r1 ea
    rw [show X.K = C.K.fr from congrArg Kw.fr hK]
    cases d with
    | list ds =>
      cases eo
      obtain ⟨p, vs, rfl, h1, h2⟩ := vw
      exact ⟨p, vs, rfl, .inl ⟨SqL.of h1, fun p hp => Alloc.post s1 (.lst hp h2.rev) q⟩⟩
    | tuple ds =>
      cases eo
      have vw' : DV C.K F1 x (.tuple ds) := vw
      cases vw' with
      | tup h1 h2 => exact ⟨_, _, rfl, .inr ⟨s1.sub.sqT h1, fun p hp => Alloc.post s1 (.tup hp h2.rev) q⟩⟩
    | _ => cases eo
/-! ## t * k -/
def aMulT (x y : PyData) : Option OD := match x, y with
  | .tuple xs, .int k => if xs.length ≠ 0 ∧ 2 ≤ k ∧ k ≤ 1000 ∧ xs.length ≤ 1000 then some (.sh (.tuple (List.replicate k.toNat xs).flatten)) else none
  | x, y => aMulW x y
theorem ao_mulT : OpO X (binaryOp .Mult) aMulT := by
  intro pins s σ F H x y v u dx dy o Q I rx ry sub h1 h2 e q
  unfold aMulT at e
  split at e
  · split at e <;> cases e
    rename_i hz
    cases h2
    have h1' : DV X.KW F x (.tuple _) := h1
    cases h1' with
    | tup g1 k1 =>
      refine op_repT pins s σ H _ _ v u Q I rx ry ⟨_, _, _, rfl, rfl, sub.sqT g1, fun z => ?_, hz.2.1, hz.2.2.1, by rw [k1.len]; exact hz.2.2.2, fun p hp => q _ _ _ (.tup hp (k1.rep _))⟩
      have := k1.len
      rw [z] at this
      exact hz.1 this.symm
  · exact ao_mulW pins s σ F H x y v u dx dy o Q I rx ry sub h1 h2 e q
end
theorem aMulT_int {i j : Int} {a b : Nat} (h1 : i.natAbs < 2 ^ a) (h2 : j.natAbs < 2 ^ b) (ha : 0 < a ∧ a ≤ 400000 := by decide) (hb : 0 < b ∧ b ≤ 400000 := by decide) : aMulT (.int i) (.int j) = some (.sh (.int (i * j))) := gMulW_int h1 h2 ha hb
theorem aMulT_rep (xs : List PyData) (k : Int) (h : -(2 ^ 63) ≤ k ∧ k < 2 ^ 63 ∧ xs.length * k.toNat ≤ sizeLine) : aMulT (.list xs) (.int k) = some (.ol (List.replicate k.toNat xs).flatten) := if_pos h
theorem rev_t (ds : List PyData) : gRev2 (.tuple ds) = some (.sh (.tuple ds.reverse)) := rfl
theorem rev_l (ds : List PyData) : gRev2 (.list ds) = some (.ol ds.reverse) := rfl
end Eg
namespace HT
open PySem PySem.Spec PyProof.Rows
section
variable {prog : Program} {w : World} {A : Around} {E : Value → Shared → Prop} {s : Shared}
theorem eh_adjust {n j : Nat} (h : j < n) : Builtin.Slice.sliceAdjust none (some (-((j : Int) + 1))) (-1) (n : Int) = ((n : Int) - 1, (n : Int) - 1 - j) := by
  unfold Builtin.Slice.sliceAdjust
  simp
  omega
theorem eh_places {n j : Nat} (h : j < n) : Builtin.Slice.slicePlaces ((n : Int) - 1) ((n : Int) - 1 - j) (-1) = j := by
  unfold Builtin.Slice.slicePlaces
  by_cases q : j = 0
  · subst q; simp
  · simp
    omega
theorem eh_applied {sl : Addr} {vu vs : Value} {n j : Nat} {Q : Int × Int × Nat → Shared → Prop} (hs : s.heap.IsSliceOf sl .none vu vs) (pu : IsPart vu (some (-((j : Int) + 1)))) (ps : IsPart vs (some (-1))) (hj : j < n)
    (h : Q ((n : Int) - 1, -1, j) s) : wpAny (model prog w) A (Builtin.Slice.sliceApplied (.ref sl) (pure (n : Int))) Q E s := by
  obtain ⟨os, hos, hcs, hds⟩ := id hs
  unfold Builtin.Slice.sliceApplied Builtin.Slice.sliceFields
  refine wpAny_bind (wpAny_bind (wpAny_field hos hds (x := .none) rfl (wpAny_bind (wpAny_field hos hds (x := vu) rfl (wpAny_bind (wpAny_field hos hds (x := vs) rfl (wpAny_pure ?_)))))))
  refine wpAny_bind (slicePart_ ps ?_)
  show wpAny _ _ (if ((-1 : Int) == 0) = true then _ else _) _ _ s
  rw [if_neg (by decide)]
  refine wpAny_bind (slicePart_ .none (wpAny_bind (slicePart_ pu (wpAny_bind (wpAny_pure ?_)))))
  show wpAny _ _ (match Builtin.Slice.sliceAdjust none (some (-((j : Int) + 1))) (-1) (n : Int) with | (lo, hi) => pure (lo, (-1 : Int), Builtin.Slice.slicePlaces lo hi (-1))) _ _ s
  rw [eh_adjust hj]
  show wpAny _ _ (pure ((n : Int) - 1, (-1 : Int), Builtin.Slice.slicePlaces ((n : Int) - 1) ((n : Int) - 1 - j) (-1))) _ _ s
  rw [eh_places hj]
  exact wpAny_pure h
theorem eh_pick {xs : Array Value} {j : Nat} (hj : j < xs.size) : ((List.range j).filterMap fun (m : Nat) => xs[(((xs.size : Nat) : Int) - 1 + (m : Int) * (-1)).toNat]?).toArray = (xs.toList.reverse.take j).toArray := by
  congr 1
  have e : (List.range j).filterMap (fun (m : Nat) => xs[(((xs.size : Nat) : Int) - 1 + (m : Int) * (-1)).toNat]?) = (List.range j).filterMap (fun m => xs.toList.reverse[m]?) := by
    refine eg_filterMap fun m hm => ?_
    have hm := List.mem_range.mp hm
    have : (((xs.size : Nat) : Int) - 1 + (m : Int) * (-1)).toNat = xs.size - 1 - m := by omega
    rw [this, List.getElem?_reverse (by rw [Array.length_toList]; omega), Array.length_toList, Array.getElem?_toList]
  rw [e]
  have key : ∀ (l : List Value) (j : Nat), j ≤ l.length → (List.range j).filterMap (fun m => l[m]?) = l.take j := by
    intro l j
    induction j with
    | zero => intro _; rfl
    | succ j ih =>
      intro h
      rw [List.range_succ, List.filterMap_append, ih (by omega), List.take_succ]
      have : l[j]? = some l[j] := by simp
      simp [this]
  exact key _ _ (by rw [List.length_reverse, Array.length_toList]; omega)
theorem eh_getItem {t sl : Addr} {items : Array Value} {vu vs : Value} {j : Nat} {Q : Value → Shared → Prop} (ht : IsTup s.heap t items) (hs : s.heap.IsSliceOf sl .none vu vs) (pu : IsPart vu (some (-((j : Int) + 1)))) (ps : IsPart vs (some (-1))) (hj : j < items.size)
    (h : Q (.ref s.heap.objs.size) { s with heap := s.heap.push { cls := .type "tuple", data := .seq (items.toList.reverse.take j).toArray } })
    (hsz : items.size ≤ sizeLine) : wpAny (model prog w) A (getItem (.ref t) (.ref sl)) Q E s := by
  have htake : sizeOk (.seq (items.toList.reverse.take j).toArray) := by
    show (items.toList.reverse.take j).toArray.size ≤ sizeLine
    rw [List.size_toArray, List.length_take, List.length_reverse, Array.length_toList]
    omega
  obtain ⟨os, hos, hcs, hds⟩ := id hs
  have hTs : s.TypeIs (.ref sl) "slice" := ⟨os, hos, hcs⟩
  unfold getItem
  try with_reducible refine wpAny_holding ?_
  first | refine wpAny_bind (wpAny_pure ?_) | skip
  refine wpAny_bind (wpAny_sequenceKey ht.typeIs (by decide) ?_)
  refine wpAny_bind (wpAny_callSpecial?_slot (name := Str.ofString "__getitem__") ht.typeIs PyProof.Rows.slot_tuple_getitem
    (wpAny_call_entry PyProof.Rows.slot_tuple_getitem ht.typeIs entry_tuple_getitem ?_ (args_tuple_getitem _ _)))
  show wpAny _ _ (Builtin.Tuple.tupleItemsOf (.ref t) >>= _) _ _ s
  refine wpAny_bind (tupleItemsOf_ ht ?_)
  refine wpAny_bind (wpAny_typeOf hTs ?_)
  rw [if_pos (by decide)]
  refine wpAny_bind (eh_applied hs pu ps hj ?_)
  have hno : ¬ ((((items.size : Nat) : Int) - 1 == 0 && (-1 : Int) == 1 && j == items.size) = true) := by
    intro q
    rw [Bool.and_eq_true, Bool.and_eq_true] at q
    exact absurd (eq_of_beq q.1.2) (by decide)
  show wpAny _ _ (if (((items.size : Nat) : Int) - 1 == 0 && (-1 : Int) == 1 && j == items.size) = true then _ else _) _ _ s
  rw [if_neg hno, eh_pick hj]
  first
    | exact wpAny_bind (m := Builtin.Tuple.tupleExact _) (wpAny_newObj_type (wpAny_pure ⟨_, rfl, wpAny_pure h⟩) htake)
    | exact wpAny_bind (m := Builtin.Tuple.tupleExact _) (wpAny_newObj_type (wpAny_bind (wpAny_pure (wpAny_pure ⟨_, rfl, wpAny_pure h⟩))) htake)
    | exact wpAny_bind (wpAny_bind (m := Builtin.Tuple.tupleExact _) (wpAny_newObj_type (wpAny_pure (wpAny_pure ⟨_, rfl, wpAny_pure h⟩)) htake))
    | exact wpAny_bind (wpAny_bind (m := Builtin.Tuple.tupleExact _) (wpAny_newObj_type (wpAny_pure ⟨_, rfl, wpAny_pure h⟩) htake))
end
end HT
namespace L2
open PySem PySem.Spec PyProof.Rows
section
variable {X : Cx}
/-- t[:-(j+1):-1] of a tuple -/
def tRevTo (K : PySem.W.Frag) (j : Nat) (te : TE) : TE := fun σ H Q => te σ H fun x H1 => ∃ a xs, x = .ref a ∧ SqT K H1 a xs ∧ j < xs.length ∧ ∀ p, H1 p = none → Q (.ref p) (upd H1 p (.tup (xs.reverse.take j)))
theorem pe_revTo {e : Expr} {te : TE} {k k2 : Nat} {m : Int} {j : Nat} {p1 p2 p3 q1 q2 pos : Pos} (hm : m = (j : Int) + 1) (he : PE X e te) : PE X (.Subscript e (.Slice none (some (.UnaryOp .USub (.Constant (.int m) k2 q1) q2)) (some (.UnaryOp .USub (.Constant (.int 1) k p1) p2)) p3) pos) (tRevTo X.K j te) := by
  refine ⟨fun pins s σ H Q I h => ?_⟩
  refine Subscript_ (thn (he.run pins s σ H _ I h) fun v s1 ⟨x, H1, I1, r1, q1⟩ => ?_)
  obtain ⟨a, xs, ex, hx, hj, q⟩ := q1
  subst ex
  cases r1
  have step : PO X (some (.UnaryOp .USub (.Constant (.int 1) k p1) p2)) (tPart (tUn (rU fun i => .int (-i)) (tC (.int 1)))) := po_some (pe_un un_neg pe_int)
  have upto : PO X (some (.UnaryOp .USub (.Constant (.int m) k2 q1) q2)) (tPart (tUn (rU fun i => .int (-i)) (tC (.int m)))) := po_some (pe_un un_neg pe_int)
  refine wpAny_Slice (thn (po_none.run pins s1 σ H1 (fun o H2 => o = none ∧ H2 = H1) I1 ⟨rfl, rfl⟩) fun vl s2 ⟨l, H2, I2, pl, el, e2⟩ => ?_)
  subst el e2
  refine thn (upto.run pins s2 σ H2 (fun o H3 => o = some (-m) ∧ H3 = H2) I2 ⟨m, rfl, -m, rfl, rfl, rfl⟩) fun vu s3 ⟨u, H3, I3, pu, eu, e3⟩ => ?_
  subst eu e3
  refine thn (step.run pins s3 σ H3 (fun o H4 => o = some (-1) ∧ H4 = H3) I3 ⟨1, rfl, -1, rfl, rfl, rfl⟩) fun vs s4 ⟨o, H4, I4, ps, eo, e4⟩ => ?_
  subst eo e4
  have I5 : Inv X pins σ H4 { s4 with heap := s4.heap.push { cls := .type "slice", data := .fields #[vl, vu, vs] } } := I4.kept (t' := s4.toks) fun b ob q => Heap.get?_push_of_some _ q
  obtain ⟨its, r, ht, hz⟩ := I5.tuple hx
  have hlen := r.length
  cases pl
  rw [hm] at pu
  show wpAny (model X.prog X.w) X.A (subscriptTail e (.Slice none (some (.UnaryOp .USub (.Constant (.int m) k2 q1) q2)) (some (.UnaryOp .USub (.Constant (.int 1) k p1) p2)) p3) (.ref a) (.ref s4.heap.objs.size)) (EP X pins σ Q) X.xe { s4 with heap := s4.heap.push { cls := .type "slice", data := .fields #[.none, vu, vs] } }
  refine tail_any (ops := [.ref a, .ref s4.heap.objs.size]) ht.typeIs (PyProof.Rows.slot_tuple_getitem.lookup) ?_ (by with_unfolding_all rfl)
  refine HT.eh_getItem ht (Heap.IsSliceOf.new _ .none vu vs) pu ps (by rw [List.size_toArray]; omega) ?_ (by rw [List.size_toArray]; omega)
  refine ⟨.ref _, _, I5.laid (t' := s4.toks) (o := .tup (xs.reverse.take j)) (fun b ob q => Heap.get?_push_of_some _ q) (Nat.le_refl _) ?_, rfl, q _ (I5.hok.fresh (Nat.le_refl _))⟩
  exact ⟨by rw [List.length_take, List.length_reverse]; omega, _, r.reverse.take j, IsTup.new _ _⟩
theorem op_add_bi : OpR X (binaryOp .Add) (fun x y H Q => ∃ k i, x = .bl k ∧ y = .int i ∧ Q (.int ((if k = true then 1 else 0) + i)) H) := by
  intro pins s σ H x y v u Q I rx ry h
  obtain ⟨k, i, rfl, rfl, q⟩ := h
  cases rx
  obtain ⟨t, rfl⟩ := ry
  exact PySem.IntBool.add_bool_int ⟨.int ((if k = true then 1 else 0) + i), H, I.tok _, ⟨_, rfl⟩, q⟩
theorem call_str_bl : CallR X (.type "str") (fun xs H Q => ∃ k, xs = [.bl k] ∧ Q (.str (if k = true then "True" else "False")) H) := by
  intro pins s σ H xs us Q I r h
  obtain ⟨k, rfl, q⟩ := h
  obtain ⟨u, rfl, ru⟩ := vals1 r
  cases ru
  refine PySem.P.str_of_bool ⟨.str (if k = true then "True" else "False"), H, I.tok _, ⟨s.toks, ?_⟩, q⟩
  cases k <;> rfl
end
end L2
namespace Eg
open PySem L2 PySem.W PySem.SeqAt
section
variable {X : Cx} {C : Ct} {e a b c o tg iter : Expr} {es : List Expr} {pos p p1 p2 p3 apos cpos pos' : Pos} {P : List Nat} {σ σ1 : St} {ρ ρ1 : Rho} {F H F1 H1 : Hp}
def gRevTo (j : Nat) : PyData → Option OD
  | .tuple ds => if j < ds.length then some (.sh (.tuple (ds.reverse.take j))) else none
  | _ => none
theorem o_revTo {k k2 : Nat} {m : Int} {j : Nat} {q1 q2 : Pos} {ma : M Arg} (hm : m = (j : Int) + 1) (ha : PE X a (tA C ma)) (hK : X.KW = C.K := by rfl) : PE X (.Subscript a (.Slice none (some (.UnaryOp .USub (.Constant (.int m) k2 q1) q2)) (some (.UnaryOp .USub (.Constant (.int 1) k p1) p2)) p3) pos) (tO C (m1 (gRevTo j) ma)) := by
  refine (pe_revTo hm ha).imp fun σ H Q ⟨F, ρ, sr, p⟩ => ?_
  refine one sr stb_O p fun x a ρ1 F1 H1 s1 g1 r1 q1 => ?_
  obtain ⟨o, eo, q⟩ := lift_some q1
  cases ea : res1 ρ1 a with
  | none => rw [ea] at eo; cases eo
  | some d =>
    rw [ea] at eo
    have vw := rA.view (ρ0 := ρ) (H0 := H) s1 r1 ea
    rw [show X.K = C.K.fr from congrArg Kw.fr hK]
    cases d with
    | tuple ds =>
      simp only [gRevTo, Option.bind_eq_bind, Option.bind_some] at eo
      split at eo <;> cases eo
      rename_i hz
      have vw' : DV C.K F1 x (.tuple ds) := vw
      cases vw' with
      | tup h1 h2 => exact ⟨_, _, rfl, s1.sub.sqT h1, by rw [h2.len]; exact hz, fun p hp => Alloc.post s1 (.tup hp (h2.rev.take j)) q⟩
    | _ => cases eo
/-! ## a truth and a number -/
def aAddB (x y : PyData) : Option OD := match x, y with
  | .bool k, .int i => some (.sh (.int ((if k = true then 1 else 0) + i)))
  | x, y => aAdd x y
theorem ao_addB : OpO X (binaryOp .Add) aAddB := by
  intro pins s σ F H x y v u dx dy o Q I rx ry sub h1 h2 e q
  unfold aAddB at e
  split at e
  · cases e
    cases h1; cases h2
    exact op_add_bi pins s σ H _ _ v u Q I rx ry ⟨_, _, rfl, rfl, q _ _ _ (.asis (.int _))⟩
  · exact ao_add pins s σ F H x y v u dx dy o Q I rx ry sub h1 h2 e q
/-! ## str(x) -/
def gStr : List PyData → Option OD
  | [.int i] => if i.natAbs.log2 < 1920 then some (.sh (.str (toString i))) else none
  | [.bool k] => some (.sh (.str (if k = true then "True" else "False")))
  | _ => none
theorem co_str : CallO X (.type "str") gStr := by
  intro pins s σ F H xs us ds o Q I r sub vw e q
  match ds, vw, e with
  | [.int i], .cons h .nil, e =>
    simp only [gStr] at e
    split at e <;> cases e
    rename_i hz
    cases h
    exact call_str_int pins s σ H _ us Q I r ⟨i, rfl, hz, q _ _ _ (.asis (.str _))⟩
  | [.bool k], .cons h .nil, e =>
    cases e
    cases h
    exact call_str_bl pins s σ H _ us Q I r ⟨k, rfl, q _ _ _ (.asis (.str _))⟩
theorem b_str : bootBuiltins "str" = some (.type "str") := by decide +kernel
/-! ## s.upper() -/
def gUpper : PyData → Option PyData
  | .str x => if x.length ≤ 5592405 then some (.str (Txt.upper x)) else none
  | _ => none
theorem d_upper {ma : M Arg} (ha : PE X a (tA C ma))
    (h : PE X (.Call (.Attribute a "upper" apos) [] [] cpos) (tM0 (fun x xs H Q => ∃ a, x = .str a ∧ xs = [] ∧ a.length ≤ 5592405 ∧ Q (.str (Txt.upper a)) H) (tA C ma))) : PE X (.Call (.Attribute a "upper" apos) [] [] cpos) (tD C (m1 gUpper ma)) :=
  h.imp fun σ H Q ⟨F, ρ, sr, q⟩ => one1 sr q fun x dx d ρ2 F2 H2 s2 r e q => by
    cases dx with
    | str z =>
      simp only [gUpper] at e
      split at e <;> cases e
      rename_i hz
      cases r
      exact ⟨⟨z, rfl⟩, z, rfl, rfl, hz, q F2 H2 _ Grow.refl s2 (.str _)⟩
    | _ => cases e
end
end Eg
namespace Eg
open PySem L2 PySem.W PySem.SeqAt PySem.Spec PyProof.Rows
/-! ## dicts with tuples as keys, at the heap -/
abbrev HRow := NestedKey × Addr × Value
def RowR (p : KRow) (q : HRow) : Prop := p.1 = q.1 ∧ p.2.1 = q.2.1 ∧ RelV p.2.2 q.2.2
def kHas (kvs : List (PyData × PyData)) (k : PyData) : Bool := kvs.any fun p => decide (nk p.1 = nk k)
/-- what stands at a key -/
def kAt : List (PyData × PyData) → PyData → Option PyData
  | [], _ => none
  | p :: kvs, k => if nk p.1 = nk k then some p.2 else kAt kvs k
def kRepl (k d : PyData) (kvs : List (PyData × PyData)) : List (PyData × PyData) := kvs.map fun p => if nk p.1 = nk k then (p.1, d) else p
def kPut (kvs : List (PyData × PyData)) (k d : PyData) : List (PyData × PyData) := if kHas kvs k = true then kRepl k d kvs else kvs ++ [(k, d)]
/-- what may be a key here: a tuple of numbers, texts, None and such -/
def keyT : PyData → Bool
  | .tuple ds => keyBs ds && decide ((PyData.tuple ds).depth ≤ 8)
  | _ => false
theorem keyT_at {k : PyData} (h : keyT k = true) : keyB k = true ∧ k.depth ≤ 8 ∧ ∃ ds, k = .tuple ds := by
  cases k <;> simp only [keyT, Bool.and_eq_true, decide_eq_true_eq] at h <;> first | exact absurd h Bool.false_ne_true | skip
  exact ⟨h.1, h.2, _, rfl⟩
def lHas (L : List KRow) (n : NestedKey) : Bool := L.any fun x => decide (x.1 = n)
def lPut (L : List KRow) (n : NestedKey) (b : Addr) (v : V) : List KRow := if lHas L n = true then L.map fun x => if x.1 = n then (x.1, x.2.1, v) else x else L ++ [(n, b, v)]
theorem atKey_cons (x : HRow) (xs : List HRow) (n : NestedKey) : atKey (x :: xs) n = if x.1 = n then some x.2 else atKey xs n := by
  unfold atKey
  rw [List.find?_cons]
  by_cases e : x.1 = n <;> simp [e]
theorem atKey_has (n : NestedKey) : ∀ xs : List HRow, (atKey xs n).isSome = xs.any fun x => decide (x.1 = n)
  | [] => rfl
  | x :: xs => by
    rw [atKey_cons, List.any_cons, ← atKey_has n xs]
    by_cases e : x.1 = n <;> simp [e]
theorem kAt_has (k : PyData) : ∀ kvs, (kAt kvs k).isSome = kHas kvs k
  | [] => rfl
  | p :: kvs => by
    rw [kAt, kHas, List.any_cons, ← kHas, ← kAt_has k kvs]
    by_cases e : nk p.1 = nk k <;> simp [e]
/-- found alike -/
def Fnd (K : Kw) (H : Hp) : Option PyData → Option Value → Prop
  | none, none => True
  | some d, some u => ∃ v, DV K H v d ∧ RelV v u
  | _, _ => False
section
variable {K : Kw} {H : Hp}
theorem KN.find (k : PyData) : ∀ {L : List KRow} {kvs : List (PyData × PyData)} {xs : List HRow}, KN K H L kvs → Paired RowR L xs → Fnd K H (kAt kvs k) ((atKey xs (nk k)).map (·.2))
  | _, _, _, .nil, .nil => trivial
  | _, _, _, .cons (k := k0) (d := d) (v := v) _ _ _ h3 t, .cons (b := x) r q => by
    rw [kAt, atKey_cons, ← r.1]
    show Fnd K H (if nk k0 = nk k then some d else _) _
    by_cases e : nk k0 = nk k
    · rw [if_pos e, if_pos e]
      exact ⟨_, h3, r.2.2⟩
    · rw [if_neg e, if_neg e]
      exact KN.find k t q
theorem KN.has (n : NestedKey) (k : PyData) (e : n = nk k) : ∀ {L : List KRow} {kvs : List (PyData × PyData)}, KN K H L kvs → lHas L n = kHas kvs k
  | _, _, .nil => rfl
  | _, _, .cons (k := k0) _ _ _ _ t => by
    have := KN.has n k e t
    unfold lHas kHas at this ⊢
    rw [List.any_cons, List.any_cons, this, e]
theorem KN.len : ∀ {L : List KRow} {kvs : List (PyData × PyData)}, KN K H L kvs → L.length = kvs.length
  | _, _, .nil => rfl
  | _, _, .cons _ _ _ _ t => by rw [List.length_cons, List.length_cons, KN.len t]
theorem KN.repl {k d : PyData} {v : V} (h : DV K H v d) : ∀ {L : List KRow} {kvs : List (PyData × PyData)}, KN K H L kvs → KN K H (L.map fun x => if x.1 = nk k then (x.1, x.2.1, v) else x) (kRepl k d kvs)
  | _, _, .nil => .nil
  | _, _, .cons (k := k0) (d := d0) (b := b0) (v := v0) h0 h1 h2 h3 t => by
    unfold kRepl
    rw [List.map_cons, List.map_cons]
    show KN K H ((if nk k0 = nk k then (nk k0, b0, v) else (nk k0, b0, v0)) :: _) ((if nk k0 = nk k then (k0, d) else (k0, d0)) :: _)
    by_cases e : nk k0 = nk k
    · rw [if_pos e, if_pos e]; exact .cons h0 h1 h2 h (KN.repl h t)
    · rw [if_neg e, if_neg e]; exact .cons h0 h1 h2 h3 (KN.repl h t)
theorem KN.snoc {k d : PyData} {b : Addr} {v : V} (kb : keyB k = true) (kd : k.depth ≤ 8) (hk : DV K H (.ref b) k) (h : DV K H v d) : ∀ {L : List KRow} {kvs : List (PyData × PyData)}, KN K H L kvs → KN K H (L ++ [(nk k, b, v)]) (kvs ++ [(k, d)])
  | _, _, .nil => .cons kb kd hk h .nil
  | _, _, .cons h0 h1 h2 h3 t => .cons h0 h1 h2 h3 (KN.snoc kb kd hk h t)
theorem KN.put {k d : PyData} {b : Addr} {v : V} (kb : keyB k = true) (kd : k.depth ≤ 8) (hk : DV K H (.ref b) k) (h : DV K H v d) {L : List KRow} {kvs : List (PyData × PyData)} (t : KN K H L kvs) : KN K H (lPut L (nk k) b v) (kPut kvs k d) := by
  unfold lPut kPut
  rw [t.has (nk k) k rfl]
  split
  · exact t.repl h
  · exact t.snoc kb kd hk h
theorem rows_has (n : NestedKey) : ∀ {L : List KRow} {xs : List HRow}, Paired RowR L xs → lHas L n = (atKey xs n).isSome
  | _, _, .nil => rfl
  | _, _, .cons r q => by
    have := rows_has n q
    rw [atKey_has] at this ⊢
    unfold lHas at this ⊢
    rw [List.any_cons, List.any_cons, this, r.1]
theorem rows_map {n : NestedKey} {v : V} {u : Value} (h : RelV v u) : ∀ {L : List KRow} {xs : List HRow}, Paired RowR L xs → Paired RowR (L.map fun x => if x.1 = n then (x.1, x.2.1, v) else x) (xs.map (putAt n u))
  | _, _, .nil => .nil
  | _, _, .cons (a := x) (b := y) r q => by
    rw [List.map_cons, List.map_cons]
    refine .cons ?_ (rows_map h q)
    unfold putAt
    rw [← r.1]
    by_cases e : x.1 = n
    · rw [if_pos e, if_pos e]; exact ⟨rfl, r.2.1, h⟩
    · rw [if_neg e, if_neg e]; exact r
theorem rows_put {n : NestedKey} {b : Addr} {v : V} {u : Value} (h : RelV v u) {L : List KRow} {xs : List HRow} (r : Paired RowR L xs) : Paired RowR (lPut L n b v) (storedH xs n b u) := by
  unfold lPut storedH
  rw [rows_has n r]
  split
  · exact rows_map h r
  · exact Paired.snoc r ⟨rfl, rfl, h⟩
theorem lPut_len (L : List KRow) (n : NestedKey) (b : Addr) (v : V) : (lPut L n b v).length ≤ L.length + 1 := by
  unfold lPut
  split
  · rw [List.length_map]; omega
  · rw [List.length_append]; exact Nat.le_refl _
end
section
variable {X : Cx} {pins : List (Addr × Obj)} {σ : L2.St} {F H : Hp} {s : Shared} {a b : Addr} {L : List KRow} {kvs : List (PyData × PyData)} {k d : PyData} {v : V} {u : Value}
theorem key_at (I : Inv X pins σ H s) (h : DV X.KW H (.ref b) k) (kb : keyB k = true) (kd : k.depth ≤ 8) : (nestedKind X.prog X.w).is s.heap (nk k) b := by
  obtain ⟨as, r⟩ := h.reads I (u := .ref b) rfl
  exact nk_is r kb kd
theorem keys_at (I : Inv X pins σ H s) : ∀ {L : List KRow} {kvs : List (PyData × PyData)} {xs : List HRow}, KN X.KW H L kvs → Paired RowR L xs → ∀ x ∈ xs, (nestedKind X.prog X.w).is s.heap x.1 x.2.1
  | _, _, _, .nil, .nil, _, hx => nomatch hx
  | _, _, _, .cons h0 h1 h2 h3 t, .cons (b := y) r q, x, hx => by
    rcases List.mem_cons.mp hx with e | hx
    · rw [e, ← r.1, ← r.2.1]
      exact key_at I h2 h0 h1
    · exact keys_at I t q x hx
/-- the dict as it stands -/
theorem kd_at (I : Inv X pins σ H s) (h : H a = some (KO X.w a L)) (sub : Same F H) (t : KN X.KW F L kvs) : (a == sysModules) = false ∧ L.length ≤ sizeLine ∧ ∃ xs, Paired RowR L xs ∧ s.heap.DictOfH (nestedKind X.prog X.w) a xs := by
  have ok : KObj X.w a L s.heap := (I.hok a _ h).1
  obtain ⟨far, size, xs, r, nd, o, es, ep, ho, hx, hd, he⟩ := ok
  exact ⟨far, size, xs, r, o, es, ep, ho, hx, hd, he, keys_at I (KN.mono sub t) r, nd⟩
theorem kd_new {P : Program} {H : Hp} {h : Heap} {w : World} {xs : List HRow} (far : (a == sysModules) = false) (size : L.length ≤ sizeLine) (r : Paired RowR L xs) (m : h.DictOfH (nestedKind P w) a xs) : ObjOk P w H h a (KO w a L) := by
  obtain ⟨o, es, ep, ho, hx, hd, he, _, nd⟩ := m
  refine ⟨⟨far, size, xs, r, nd, o, es, ep, ho, hx, hd, he⟩, ⟨o, ho⟩, fun h1 h2 p q => ?_⟩
  obtain ⟨far, size, xs, r, nd, o, es, ep, ho, hx, hd, he⟩ := p
  exact ⟨far, size, xs, r, nd, o, es, ep, q o ho, hx, hd, he⟩
variable {A : Around} {E : Value → Shared → Prop}
theorem room_in1 (hu : A.units + 9 < cLine) : (nestedKind X.prog X.w).room A.in1 := by show A.units + 1 + 8 < cLine; omega
/-- d[k], there -/
theorem kd_get {Q : Value → Shared → Prop} (hu : A.units + 9 < cLine) (I : Inv X pins σ H s) (h : H a = some (KO X.w a L)) (sub : Same F H) (t : KN X.KW F L kvs) (hk : DV X.KW F (.ref b) k) (ht : keyT k = true) (e : kAt kvs k = some d)
    (q : ∀ w v s', Inv X pins σ H s' → RelV w v → DV X.KW F w d → Q v s') : wpAny (model X.prog X.w) A (getItem (.ref a) (.ref b)) Q E s := by
  obtain ⟨far, size, xs, r, m⟩ := kd_at I h sub t
  obtain ⟨kb, kd, _⟩ := keyT_at ht
  have f := t.find k r
  rw [e] at f
  cases z : atKey xs (nk k) with
  | none => rw [z] at f; exact f.elim
  | some p =>
    rw [z] at f
    obtain ⟨v, dv, rv⟩ := f
    exact wpAny_getItem_heap (room_in1 hu) (key_at I (DV.mono sub hk) kb kd) m z (q v _ _ (I.tok _) rv dv)
/-- k in d -/
theorem kd_in {Q : Value → Shared → Prop} (hu : A.units + 9 < cLine) (I : Inv X pins σ H s) (h : H a = some (KO X.w a L)) (sub : Same F H) (t : KN X.KW F L kvs) (hk : DV X.KW F (.ref b) k) (ht : keyT k = true)
    (q : ∀ s', Inv X pins σ H s' → Q (.bool (kHas kvs k)) s') : wpAny (model X.prog X.w) A (compareOp .In (.ref b) (.ref a)) Q E s := by
  obtain ⟨far, size, xs, r, m⟩ := kd_at I h sub t
  obtain ⟨kb, kd, _⟩ := keyT_at ht
  refine wpAny_in_heap (room_in1 hu) (key_at I (DV.mono sub hk) kb kd) far m ?_
  rw [← rows_has _ r, t.has (nk k) k rfl]
  exact q _ (I.tok _)
theorem kd_notIn {Q : Value → Shared → Prop} (hu : A.units + 9 < cLine) (I : Inv X pins σ H s) (h : H a = some (KO X.w a L)) (sub : Same F H) (t : KN X.KW F L kvs) (hk : DV X.KW F (.ref b) k) (ht : keyT k = true)
    (q : ∀ s', Inv X pins σ H s' → Q (.bool (!kHas kvs k)) s') : wpAny (model X.prog X.w) A (compareOp .NotIn (.ref b) (.ref a)) Q E s := by
  obtain ⟨far, size, xs, r, m⟩ := kd_at I h sub t
  obtain ⟨kb, kd, _⟩ := keyT_at ht
  refine wpAny_notIn_heap (room_in1 hu) (key_at I (DV.mono sub hk) kb kd) far m ?_
  rw [← rows_has _ r, t.has (nk k) k rfl]
  exact q _ (I.tok _)
/-- written -/
theorem kd_write {h' : Heap} {t' : Nat} {xs : List HRow} (I : Inv X pins σ H s) (h : H a = some (KO X.w a L)) (far : (a == sysModules) = false) (size : L.length < sizeLine) (r : Paired RowR L xs) (rv : RelV v u)
    (m : h'.DictOfH (nestedKind X.prog X.w) a (storedH xs (nk k) b u)) (sb : Heap.SameBut a s.heap h') : Inv X pins σ (upd H a (KO X.w a (lPut L (nk k) b v))) { s with heap := h', toks := t' } := by
  have he : ∃ q, h'.get? a = some q := let ⟨q, _, _, hq, _⟩ := m; ⟨q, hq⟩
  exact d_write I (by rw [h]; exact True.intro) sb he (kd_new far (by have := lPut_len L (nk k) b v; omega) (rows_put rv r) m)
/-- d[k] = v -/
theorem kd_set {Q : Unit → Shared → Prop} (hu : A.units + 9 < cLine) (I : Inv X pins σ H s) (h : H a = some (KO X.w a L)) (sub : Same F H) (t : KN X.KW F L kvs) (hk : DV X.KW F (.ref b) k) (ht : keyT k = true) (hz : kvs.length < sizeLine) (rv : RelV v u)
    (q : ∀ s', Inv X pins σ (upd H a (KO X.w a (lPut L (nk k) b v))) s' → Q () s') : wpAny (model X.prog X.w) A (setItem (.ref a) (.ref b) u) Q E s := by
  obtain ⟨far, size, xs, r, m⟩ := kd_at I h sub t
  obtain ⟨kb, kd, _⟩ := keyT_at ht
  exact wpAny_setItem_heap (hsz := by rw [← Paired.length r]; exact size) (room_in1 hu) (key_at I (DV.mono sub hk) kb kd) m fun h' m' sb => q _ (kd_write (k := k) I h far (by rw [t.len]; exact hz) r rv m' sb)
/-- by a comprehension -/
theorem kd_dset {Q : Unit → Shared → Prop} (hu : A.units + 8 < cLine) (I : Inv X pins σ H s) (h : H a = some (KO X.w a L)) (sub : Same F H) (t : KN X.KW F L kvs) (hk : DV X.KW F (.ref b) k) (ht : keyT k = true) (hz : kvs.length < sizeLine) (rv : RelV v u)
    (q : ∀ s', Inv X pins σ (upd H a (KO X.w a (lPut L (nk k) b v))) s' → Q () s') : wpAny (model X.prog X.w) A (dictSet a (.ref b) u) Q E s := by
  obtain ⟨far, size, xs, r, m⟩ := kd_at I h sub t
  obtain ⟨kb, kd, _⟩ := keyT_at ht
  exact wpAny_dictSet_heap (hsz := by rw [← Paired.length r]; exact size) (show A.units + 8 < cLine from hu) (key_at I (DV.mono sub hk) kb kd) m fun h' m' sb => q _ (kd_write (k := k) I h far (by rw [t.len]; exact hz) r rv m' sb)
/-- d.get(k), d.get(k, x) -/
theorem kd_get1 {Q : Value → Shared → Prop} (hu : A.units + 9 < cLine) (I : Inv X pins σ H s) (h : H a = some (KO X.w a L)) (sub : Same F H) (t : KN X.KW F L kvs) (hk : DV X.KW F (.ref b) k) (ht : keyT k = true)
    (q : ∀ w v s', Inv X pins σ H s' → RelV w v → DV X.KW F w ((kAt kvs k).getD .none) → Q v s') : wpAny (model X.prog X.w) A (call (.builtin "dict.get") [.ref a, .ref b]) Q E s := by
  obtain ⟨far, size, xs, r, m⟩ := kd_at I h sub t
  obtain ⟨kb, kd, _⟩ := keyT_at ht
  refine call_meetsIn PySem.F.slot_dict_get m.typeIs PySem.F.entry_dict_get (PySem.F.args_dict_get_2 _ _) (meetsH_dict_get (nestedKind X.prog X.w) a b far) ⟨room_in1 hu, nk k, xs, key_at I (DV.mono sub hk) kb kd, m, ?_⟩
  have f := t.find k r
  cases z : atKey xs (nk k) with
  | none =>
    cases e : kAt kvs k with
    | none => exact q .non _ _ (I.tok _) rfl (by rw [e]; exact .non)
    | some d => rw [z, e] at f; exact f.elim
  | some p =>
    cases e : kAt kvs k with
    | none => rw [z, e] at f; exact f.elim
    | some d =>
      rw [z, e] at f
      obtain ⟨v, dv, rv⟩ := f
      exact q v _ _ (I.tok _) rv (by rw [e]; exact dv)
theorem kd_get2 {Q : Value → Shared → Prop} {x : PyData} {vx : V} {ux : Value} (hu : A.units + 9 < cLine) (I : Inv X pins σ H s) (h : H a = some (KO X.w a L)) (sub : Same F H) (t : KN X.KW F L kvs) (hk : DV X.KW F (.ref b) k) (ht : keyT k = true) (dx : DV X.KW F vx x) (rx : RelV vx ux)
    (q : ∀ w v s', Inv X pins σ H s' → RelV w v → DV X.KW F w ((kAt kvs k).getD x) → Q v s') : wpAny (model X.prog X.w) A (call (.builtin "dict.get") [.ref a, .ref b, ux]) Q E s := by
  obtain ⟨far, size, xs, r, m⟩ := kd_at I h sub t
  obtain ⟨kb, kd, _⟩ := keyT_at ht
  refine call_meetsIn PySem.F.slot_dict_get m.typeIs PySem.F.entry_dict_get (PySem.F.args_dict_get_3 _ _ _) (meetsH_dict_get_default (nestedKind X.prog X.w) a b far ux) ⟨room_in1 hu, nk k, xs, key_at I (DV.mono sub hk) kb kd, m, ?_⟩
  have f := t.find k r
  cases z : atKey xs (nk k) with
  | none =>
    cases e : kAt kvs k with
    | none => exact q vx _ _ (I.tok _) rx (by rw [e]; exact dx)
    | some d => rw [z, e] at f; exact f.elim
  | some p =>
    cases e : kAt kvs k with
    | none => rw [z, e] at f; exact f.elim
    | some d =>
      rw [z, e] at f
      obtain ⟨v, dv, rv⟩ := f
      exact q v _ _ (I.tok _) rv (by rw [e]; exact dv)
end
end Eg
namespace Eg
open PySem L2 PySem.W PySem.SeqAt PySem.Spec PyProof.Rows
/-! ## dicts with tuples as keys: rules -/
/-- the dict that a slot has -/
def dctK : Option (Option OD) → Option (List (PyData × PyData))
  | some (some (.kd kvs)) => some kvs
  | some (some (.sn kvs)) => some kvs
  | _ => none
theorem dctK_at {K : Kw} {F H : Hp} {σ : L2.St} {ρ : Rho} {i : Nat} {kvs : List (PyData × PyData)} (s : SR K F H σ ρ) (e : dctK ρ[i]? = some kvs) : ∃ a L, σ[i]? = some (some (.ref a)) ∧ H a = some (KO K.w a L) ∧ KN K F L kvs := by
  cases q : ρ[i]? with
  | none => rw [q] at e; cases e
  | some o =>
    rw [q] at e
    cases o with
    | none => cases e
    | some o =>
      obtain ⟨v, hv, r⟩ := s.sl i o q
      cases o with
      | kd kvs' => cases e; obtain ⟨a, L, rfl, _, h2, h3⟩ := r; exact ⟨a, L, hv, h2, h3⟩
      | sn kvs' => cases e; obtain ⟨a, L, rfl, h2, h3⟩ := r; exact ⟨a, L, hv, s.sub _ _ h2, h3⟩
      | _ => cases e
theorem dv_tup {K : Kw} {F : Hp} {v : V} {k : PyData} (h : DV K F v k) (t : keyT k = true) : ∃ b, v = .ref b := by
  obtain ⟨_, _, ds, rfl⟩ := keyT_at t
  cases h with
  | tup _ _ => exact ⟨_, rfl⟩
/-- with the dict of the slot i and a key -/
def onK {γ : Type} (i : Nat) (mk : M PyData) (f : List (PyData × PyData) → PyData → Option γ) : M γ := mk.bind fun kd => fun ρ => match dctK ρ[i]? with
  | some kvs => if keyT kd = true then (match f kvs kd with
    | some d => .ok d ρ
    | none => .bad) else .bad
  | none => .bad
def mKGet (i : Nat) (mk : M PyData) : M PyData := onK i mk kAt
def mKIn (i : Nat) (mk : M PyData) : M Bool := onK i mk fun kvs k => some (kHas kvs k)
def mKNot (i : Nat) (mk : M PyData) : M Bool := onK i mk fun kvs k => some (!kHas kvs k)
def rBl : Hp → Hp → L2.St → Rho → Rho → Hp → V → Bool → Prop := fun _ _ _ _ _ _ v b => v = V.bl b
theorem stb_Bl : Stb rBl := fun _ _ _ _ _ _ _ _ _ _ _ _ _ r => r
section
variable {X : Cx} {C : Ct} {e a b c o : Expr} {es : List Expr} {pos apos cpos pos' : Pos} {P : List Nat}
/-- behind the key -/
def KSt (C : Ct) {γ : Type} (RR : Hp → Hp → L2.St → Rho → Rho → Hp → V → γ → Prop) (f : List (PyData × PyData) → PyData → Option γ) (i : Nat) (σ : L2.St) (Q : VK) (y : V) (H : Hp) : Prop :=
  ∃ F ρ a b L kvs k d, SR C.K F H σ ρ ∧ σ[i]? = some (some (V.ref a)) ∧ y = .ref b ∧ H a = some (KO C.K.w a L) ∧ KN C.K F L kvs ∧ DV C.K F (.ref b) k ∧ keyT k = true ∧ f kvs k = some d ∧ PostE C RR σ ρ F H Q (.ok d ρ)
theorem onK_read {γ : Type} {RR : Hp → Hp → L2.St → Rho → Rho → Hp → V → γ → Prop} {f : List (PyData × PyData) → PyData → Option γ} {i : Nat} {mk : M PyData} {σ : L2.St} {ρ : Rho} {F H : Hp} {Q : VK} (st : Stb RR) (sr : SR C.K F H σ ρ) (p : PostE C RR σ ρ F H Q (onK i mk f ρ)) :
    tD C mk σ H fun y H1 => KSt C RR f i σ Q y H1 := by
  refine ⟨F, ρ, sr, p.part fun kd ρ1 F1 H1 y ee q1 g1 s1 r1 => ?_⟩
  have q1 := q1.on st g1
  cases es : dctK ρ1[i]? with
  | none => simp only [es] at q1; exact q1.elim
  | some kvs =>
    simp only [es] at q1
    split at q1
    · rename_i ht
      cases ed : f kvs kd with
      | none => simp only [ed] at q1; exact q1.elim
      | some d =>
        simp only [ed] at q1
        obtain ⟨a, L, ha, hH, hn⟩ := dctK_at s1 es
        obtain ⟨b, rfl⟩ := dv_tup r1 ht
        exact ⟨F1, ρ1, a, b, L, kvs, kd, d, s1, ha, rfl, hH, hn, r1, ht, ed, q1⟩
    · exact q1.elim
theorem d_kget {i : Nat} {mk : M PyData} (hu : X.A.units + 9 < cLine) (ho : PE X o (tVar i)) (hi : PE X e (tD C mk)) (hs : NoSl e) (hK : X.KW = C.K := by rfl) : PE X (.Subscript o e pos) (tD C (mHas i (mKGet i mk))) := by
  refine ⟨fun pins s σ H Q I ⟨F, ρ, sr, p⟩ => ?_⟩
  unfold mHas at p
  split at p
  · rename_i oo eo
    obtain ⟨v, hv, _⟩ := sr.sl i _ eo
    refine subD_of PySem.F.slot_dict_getitem.lookup hs (thn (ho.run pins s σ H (fun x H1 => x = v ∧ H1 = H) I ⟨v, hv, rfl, rfl⟩) fun u s1 ⟨x, H1, I1, rx, e1, e2⟩ => ?_)
    subst e1 e2
    refine thn (hi.run pins s1 σ H1 _ I1 (onK_read stb_D sr p)) fun iv s2 ⟨y, H2, I2, ry, F2, ρ2, a, b, L, kvs, k, d, s2', ha, ey, hH, hn, hk, ht, ed, q2⟩ => ?_
    rw [hv] at ha
    cases ha
    subst ey
    obtain rfl : u = .ref a := rx
    obtain rfl : iv = .ref b := ry
    rw [← hK] at hH hn hk s2'
    obtain ⟨_, _, xs, _, m⟩ := kd_at I2 hH s2'.sub hn
    exact ⟨m.typeIs, kd_get hu I2 hH s2'.sub hn hk ht ed fun w v s3 I3 rw' dv => ⟨w, H2, I3, rw', q2 F2 H2 w Grow.refl (hK ▸ s2') (hK ▸ dv)⟩⟩
  · exact p.elim
def tBl (C : Ct) (m : M Bool) : TE := fun σ H Q => ∃ F ρ, SR C.K F H σ ρ ∧ PostE (β := V) C rBl σ ρ F H Q (m ρ)
theorem pc_kin {i : Nat} {mk : M PyData} (hu : X.A.units + 9 < cLine) (ha : PE X a (tD C mk)) (hb : PE X b (tVar i)) (hK : X.KW = C.K := by rfl) : PC X .In a b (tBl C (mKIn i mk)) := by
  refine ⟨fun pins s σ H Q I ⟨F, ρ, sr, p⟩ => ?_⟩
  refine thn (ha.run pins s σ H _ I (onK_read stb_Bl sr p)) fun iv s2 ⟨y, H2, I2, ry, F2, ρ2, a, b, L, kvs, k, d, s2', hv, ey, hH, hn, hk, ht, ed, q2⟩ => ?_
  refine thn (hb.run pins s2 σ H2 (fun x H1 => x = .ref a ∧ H1 = H2) I2 ⟨_, hv, rfl, rfl⟩) fun u s1 ⟨x, H1, I1, rx, e1, e2⟩ => ?_
  subst e1 e2 ey
  obtain rfl : u = .ref a := rx
  obtain rfl : iv = .ref b := ry
  cases ed
  rw [← hK] at hH hn hk s2'
  exact kd_in hu I1 hH s2'.sub hn hk ht fun s3 I3 => ⟨.bl (kHas kvs k), H1, I3, rfl, q2 F2 H1 (.bl (kHas kvs k)) Grow.refl (hK ▸ s2') rfl⟩
theorem pc_knot {i : Nat} {mk : M PyData} (hu : X.A.units + 9 < cLine) (ha : PE X a (tD C mk)) (hb : PE X b (tVar i)) (hK : X.KW = C.K := by rfl) : PC X .NotIn a b (tBl C (mKNot i mk)) := by
  refine ⟨fun pins s σ H Q I ⟨F, ρ, sr, p⟩ => ?_⟩
  refine thn (ha.run pins s σ H _ I (onK_read stb_Bl sr p)) fun iv s2 ⟨y, H2, I2, ry, F2, ρ2, a, b, L, kvs, k, d, s2', hv, ey, hH, hn, hk, ht, ed, q2⟩ => ?_
  refine thn (hb.run pins s2 σ H2 (fun x H1 => x = .ref a ∧ H1 = H2) I2 ⟨_, hv, rfl, rfl⟩) fun u s1 ⟨x, H1, I1, rx, e1, e2⟩ => ?_
  subst e1 e2 ey
  obtain rfl : u = .ref a := rx
  obtain rfl : iv = .ref b := ry
  cases ed
  rw [← hK] at hH hn hk s2'
  exact kd_notIn hu I1 hH s2'.sub hn hk ht fun s3 I3 => ⟨.bl (!kHas kvs k), H1, I3, rfl, q2 F2 H1 (.bl (!kHas kvs k)) Grow.refl (hK ▸ s2') rfl⟩
theorem bl_d {m : M Bool} {σ : L2.St} {H : Hp} {Q : VK} (h : tD C (m.bind fun b => M.ret (.bool b)) σ H Q) : tBl C m σ H Q := by
  obtain ⟨F, ρ, sr, p⟩ := h
  exact ⟨F, ρ, sr, p.part fun b ρ1 F1 H1 v e1 q1 g1 s1 r1 => q1 F1 H1 v g1 s1 (by rw [show v = V.bl b from r1]; exact .bl b)⟩
theorem bl_t {m : M Bool} {σ : L2.St} {H : Hp} {Q : Bool → Hp → Prop} (h : tT C m σ H Q) : tBl C m σ H fun x H' => ∃ k, x = V.bl k ∧ Q k H' := by
  obtain ⟨F, ρ, sr, p⟩ := h
  refine ⟨F, ρ, sr, ?_⟩
  cases e : m ρ with
  | ok b ρ' => rw [e] at p; exact fun F' H' v g s r => ⟨b, r, p F' H' b g s rfl⟩
  | ex x ρ' => rw [e] at p; exact p
  | bad => rw [e] at p; exact p
theorem d_kin {i : Nat} {mk : M PyData} (hu : X.A.units + 9 < cLine) (ha : PE X a (tD C mk)) (hb : PE X b (tVar i)) (hm : behindInMarks .In b = false := by rfl) (hK : X.KW = C.K := by rfl) : PE X (.Compare a [.In] [b] pos) (tD C ((mKIn i mk).bind fun b => M.ret (.bool b))) :=
  (pe_cmp (pc_kin hu ha hb hK) hm).imp fun _ _ _ h => bl_d h
theorem d_knot {i : Nat} {mk : M PyData} (hu : X.A.units + 9 < cLine) (ha : PE X a (tD C mk)) (hb : PE X b (tVar i)) (hm : behindInMarks .NotIn b = false := by rfl) (hK : X.KW = C.K := by rfl) : PE X (.Compare a [.NotIn] [b] pos) (tD C ((mKNot i mk).bind fun b => M.ret (.bool b))) :=
  (pe_cmp (pc_knot hu ha hb hK) hm).imp fun _ _ _ h => bl_d h
theorem t_kin {i : Nat} {mk : M PyData} (hu : X.A.units + 9 < cLine) (ha : PE X a (tD C mk)) (hb : PE X b (tVar i)) (hm : behindInMarks .In b = false := by rfl) (hK : X.KW = C.K := by rfl) : PT X (.Compare a [.In] [b] pos) (tT C (mKIn i mk)) :=
  (pt_cmp (pc_kin hu ha hb hK) hm).imp fun _ _ _ h => bl_t h
theorem t_knot {i : Nat} {mk : M PyData} (hu : X.A.units + 9 < cLine) (ha : PE X a (tD C mk)) (hb : PE X b (tVar i)) (hm : behindInMarks .NotIn b = false := by rfl) (hK : X.KW = C.K := by rfl) : PT X (.Compare a [.NotIn] [b] pos) (tT C (mKNot i mk)) :=
  (pt_cmp (pc_knot hu ha hb hK) hm).imp fun _ _ _ h => bl_t h
/-! ### d[k] = v -/
def sKPut (i : Nat) (mv mk : M PyData) : M Out := mv.bind fun d => mHas i (mk.bind fun kd => fun ρ => match ρ[i]? with
  | some (some (.kd kvs)) => if keyT kd = true ∧ kvs.length < sizeLine then .ok .nx (ρ.set i (some (.kd (kPut kvs kd d)))) else .bad
  | _ => .bad)
theorem s_kput {i : Nat} {value : Expr} {mv mk : M PyData} (hu : X.A.units + 9 < cLine) (ho : PE X o (tVar i)) (hi : PE X e (tD C mk)) (hv : PE X value (tD C mv)) (hs : swapsWith value (some (.Subscript o e pos')) pos.line X.env = pure false := by rfl) (hK : X.KW = C.K := by rfl) :
    PS X (.Assign [.Subscript o e pos'] value pos) (tS C P (sKPut i mv mk)) := by
  refine ⟨fun pins s σ H D I ⟨F, ρ, sr, p⟩ => ?_⟩
  refine wpAny_Assign_Subscript (thn (hv.run pins s σ H (fun v H1 => ∃ F1 ρ1 d, SR C.K F1 H1 σ ρ1 ∧ DV C.K F1 v d ∧ PostS C P σ ρ1 F1 H1 D (mHas i (mk.bind fun kd => fun ρ => match ρ[i]? with
    | some (some (.kd kvs)) => if keyT kd = true ∧ kvs.length < sizeLine then .ok .nx (ρ.set i (some (.kd (kPut kvs kd d)))) else .bad
    | _ => .bad) ρ1)) I ⟨F, ρ, sr, PostS.part (P := P) p fun d ρ1 F1 H1 v q1 g1 s1 r1 => ⟨F1, ρ1, d, s1, r1, q1⟩⟩) fun r s1 ⟨v, H1, I1, rv, F1, ρ1, d, s1', dv, q1⟩ => ?_) hs
  unfold mHas at q1
  split at q1
  · rename_i oo eo
    obtain ⟨x, hx, _⟩ := s1'.sl i _ eo
    refine thn (ho.run pins s1 σ H1 (fun y H2 => y = x ∧ H2 = H1) I1 ⟨x, hx, rfl, rfl⟩) fun u s2 ⟨y, H2, I2, ry, e1, e2⟩ => ?_
    subst e1 e2
    refine thn (hi.run pins s2 σ H2 (fun z H3 => ∃ F3 ρ3 kvs k, SR C.K F3 H3 σ ρ3 ∧ Same F1 F3 ∧ DV C.K F3 z k ∧ ρ3[i]? = some (some (.kd kvs)) ∧ keyT k = true ∧ kvs.length < sizeLine ∧ PostS C P σ ρ3 F3 H3 D (.ok .nx (ρ3.set i (some (.kd (kPut kvs k d)))))) I2 ⟨F1, ρ1, s1', PostS.part (P := P) q1 fun kd ρ3 F3 H3 z q3 g3 s3 r3 => ?_⟩) fun iv s3 ⟨z, H3, I3, rz, F3, ρ3, kvs, k, s3', sub, dz, eo3, ht, hz, q3⟩ => ?_
    · split at q3
      · rename_i kvs eo3
        split at q3
        · rename_i hz
          exact ⟨F3, ρ3, kvs, kd, s3, g3.ext, r3, eo3, hz.1, hz.2, q3⟩
        · exact q3.elim
      · exact q3.elim
    · obtain ⟨x', hx', a, L, rfl, fa, hH, hn⟩ := s3'.sl i _ eo3
      rw [hx] at hx'
      cases hx'
      obtain ⟨b, rfl⟩ := dv_tup dz ht
      obtain rfl : u = .ref a := ry
      obtain rfl : iv = .ref b := rz
      obtain ⟨kb, kd, _⟩ := keyT_at ht
      have st := SR.write (i := i) (o' := .kd (kPut kvs k d)) (u := KO C.K.w a (lPut L (nk k) b v)) s3' eo3 rfl hx rfl ⟨a, lPut L (nk k) b v, rfl, fa, upd_same, hn.put kb kd dz (DV.mono sub dv)⟩
      have fin := q3 F3 _ σ st.2 st.1 Pres.refl
      have hw : X.w = C.K.w := congrArg Kw.w hK
      rw [← hK] at hn dz s3'
      refine kd_set hu I3 (hw ▸ hH) s3'.sub hn dz ht hz rv fun s4 I4 => ⟨σ, _, I4, ?_⟩
      rw [hw]
      exact fin
  · exact q1.elim
/-! ### {} -/
theorem o_knew (hK : X.KW = C.K := by rfl) : PE X (.Dict [] [] pos) (tO C (M.ret (.kd []))) := by
  refine ⟨fun pins s σ H Q I ⟨F, ρ, sr, p⟩ => ?_⟩
  have hn : H s.heap.objs.size = none := I.hok.fresh (Nat.le_refl _)
  have fp := sr.sub.free hn
  have hw : X.w = C.K.w := congrArg Kw.w hK
  refine wpAny_Dict_empty ⟨.ref s.heap.objs.size, upd H s.heap.objs.size (KO X.w s.heap.objs.size []), I.laid (t' := s.toks) (fun _ _ q => Heap.get?_push_of_some _ q) (Nat.le_refl _)
    (kd_new (P := X.prog) (xs := []) (beq_eq_false_iff_ne.mpr (Ne.symm (Nat.ne_of_lt I.big))) (Nat.zero_le _) .nil (Heap.DictOfH.new s.heap)), rfl, ?_⟩
  rw [hw]
  exact p F _ _ (Grow.fresh hn) (sr.fresh hn) ⟨⟨_, [], rfl, fp, upd_same, .nil⟩, fun _ a e => by
    cases e
    refine ⟨fun z => ?_, .inl hn⟩
    obtain ⟨_, u, e2⟩ := own.at sr z
    rw [hn] at e2; cases e2⟩
/-! ### a dict is handed on, for good: a slot as an argument -/
def mKFrz (i : Nat) : M Arg := fun ρ => match ρ[i]? with
  | some (some (.kd kvs)) => .ok (.slot i) (ρ.set i (some (.sn kvs)))
  | some (some (.sn _)) => .ok (.slot i) ρ
  | _ => .bad
theorem a_kfrz {i : Nat} (h : PE X e (tVar i)) : PE X e (tA C (mKFrz i)) := by
  refine PE.imp h fun σ H Q ⟨F, ρ, sr, p⟩ => ?_
  unfold mKFrz at p
  cases q : ρ[i]? with
  | none => rw [q] at p; exact p.elim
  | some o =>
    rw [q] at p
    cases o with
    | none => exact p.elim
    | some o =>
      obtain ⟨v, hv, r⟩ := sr.sl i o q
      cases o with
      | sn kvs => exact ⟨v, hv, p F H v Grow.refl sr hv⟩
      | kd kvs =>
        obtain ⟨a, L, rfl, h1, h2, h3⟩ := r
        have up : Same F (upd F a (KO C.K.w a L)) := fun b u h => by rw [upd_ne (ne_of_none h h1)]; exact h
        refine ⟨_, hv, p (upd F a (KO C.K.w a L)) H (.ref a) ?_ ?_ hv⟩
        · refine Grow.less (Grow.fix h1 Grow.refl (.inr ⟨i, _, q, rfl, hv⟩)) fun b hb => ?_
          rcases hb.put with z | ⟨z, _⟩
          · exact (own.wipe z).1
          · cases z
        · have n := SR.fix (sr.wipe i) (own.wipeNe sr q rfl hv) h2 h1
          have n2 := SR.put (i := i) (o := .sn kvs) n hv ⟨a, L, rfl, upd_same, KN.mono up h3⟩ (fun z => by cases z)
          rw [List.set_set] at n2
          exact n2
      | _ => exact p.elim
end
end Eg
namespace Eg
open PySem L2 PySem.W PySem.SeqAt PySem.Spec PyProof.Rows
/-! ## {k: v for ..}, tuples as keys -/
def kcGo (t : Tgt) (mt : M Bool) (mk mv : M PyData) (vs : List Nat) : List PyData → List (PyData × PyData) → M (List (PyData × PyData))
  | [], acc => M.ret acc
  | x :: xs, acc => fun ρ => match t x (wipeR ρ vs) with
    | none => .bad
    | some ρ1 => match mt ρ1 with
      | .ok false ρ2 => kcGo t mt mk mv vs xs acc ρ2
      | .ok true ρ2 => (match mk ρ2 with
        | .ok k ρ3 => (match mv ρ3 with
          | .ok d ρ4 => if keyT k = true ∧ acc.length < sizeLine then kcGo t mt mk mv vs xs (kPut acc k d) ρ4 else .bad
          | _ => .bad)
        | _ => .bad)
      | _ => .bad
def mKComp (src : M (List PyData)) (t : Tgt) (mt : M Bool) (mk mv : M PyData) (vs : List Nat) : M OD := src.bind fun xs => fun ρ => match kcGo t mt mk mv vs xs [] ρ with
  | .ok acc ρ' => if ρ'.length = ρ.length then .ok (.kd acc) (restR ρ ρ' vs) else .bad
  | _ => .bad
/-- what stands while the block runs: the dict at D is the block's own -/
structure KMid (C : Ct) (σ0 : L2.St) (ρ1 : Rho) (vs : List Nat) (F1 H1 : Hp) (D : Addr) (σ : L2.St) (ρ : Rho) (F H : Hp) (acc : List (PyData × PyData)) : Prop where
  sr : SR C.K F H σ ρ
  gr : Grow (own σ0 (wipeR ρ1 vs)) (own σ ρ) F1 H1 F H
  no : ¬ own σ ρ D
  ft : F D = none
  rows : ∃ L, H D = some (KO C.K.w D L) ∧ KN C.K F L acc
section
variable {C : Ct} {σ0 σ : L2.St} {ρ1 ρ ρ' : Rho} {vs : List Nat} {F1 H1 F H F' H' : Hp} {D : Addr} {acc : List (PyData × PyData)}
/-- on: what is evaluated leaves the dict alone -/
theorem KMid.on (m : KMid C σ0 ρ1 vs F1 H1 D σ ρ F H acc) (g : Grow (own σ ρ) (own σ ρ') F H F' H') (s : SR C.K F' H' σ ρ') : KMid C σ0 ρ1 vs F1 H1 D σ ρ' F' H' acc := by
  obtain ⟨L, h, t⟩ := m.rows
  refine ⟨s, m.gr.trans g, fun z => ?_, ?_, L, g.keep D _ h m.no, t.mono g.ext⟩
  · rcases g.ows D z with y | y
    · exact m.no y
    · rw [h] at y; cases y
  · cases q : F' D with
    | none => rfl
    | some u =>
      rcases g.new D (by rw [q]; simp) with z | z | z
      · exact absurd m.ft z
      · rw [h] at z; cases z
      · exact absurd z m.no
/-- a row more -/
theorem KMid.put (m : KMid C σ0 ρ1 vs F1 H1 D σ ρ F H acc) (hD : H1 D = none) {k d : PyData} {b : Addr} {v : V} (kt : keyT k = true) (dk : DV C.K F (.ref b) k) (dv : DV C.K F v d) {L : List KRow} (hL : H D = some (KO C.K.w D L)) (t : KN C.K F L acc) :
    KMid C σ0 ρ1 vs F1 H1 D σ ρ F (upd H D (KO C.K.w D (lPut L (nk k) b v))) (kPut acc k d) := by
  obtain ⟨kb, kd, _⟩ := keyT_at kt
  refine ⟨m.sr.on (Same.refl _) (fun c u q => by rw [upd_ne (ne_of_none q m.ft)]; exact m.sr.sub c u q) fun a ha => ?_, ⟨m.gr.ext, fun c o q n => ?_, m.gr.new, m.gr.ows⟩, m.no, m.ft, _, upd_same, t.put kb kd dk dv⟩
  · exact ⟨(own.at m.sr ha).1, fun u q => by rw [upd_ne (fun z => m.no (by rw [← z]; exact ha))]; exact q⟩
  · rw [upd_ne (ne_of_none q hD)]
    exact m.gr.keep c o q n
end
section
variable {X : Cx} {C : Ct} {kx vx tg iter : Expr} {ifs : List Expr} {pos : Pos}
/-- what a turn's end leads to -/
def KNext (C : Ct) (σ0 : L2.St) (ρ1 : Rho) (vs : List Nat) (F1 H1 : Hp) (D : Addr) (t : Tgt) (mt : M Bool) (mk mv : M PyData) (all : List PyData) (accF : List (PyData × PyData)) (ρF : Rho) (i : Nat) (H : Hp) : Prop :=
  i ≤ all.length ∧ ∃ F ρ acc, KMid C σ0 ρ1 vs F1 H1 D σ0 (wipeR ρ vs) F H acc ∧ kcGo t mt mk mv vs (all.drop i) acc ρ = .ok accF ρF
theorem kdc_core {pins : List (Addr × Obj)} {s : Shared} {σ : L2.St} {H : Hp} {Q : VK} {use : Option (Value → Sem Unit)} {Qf : Value → Shared → Prop} {pos2 : Pos} {scope : Scope} {names : List (Str × Nat)} {g : TG} {t : Tgt} {src : M (List PyData)} {mt : M Bool} {mk mv : M PyData} {n : Nat} (hu : X.A.units + 9 < cLine) (calm : X.calm = true) (nd : X.N.Nodup) (walk : PI X tg iter (tI C src)) (ok : BlkOk X.N X.env.scope scope names)
    (hg : ∀ (s : Shared) (H : Hp) (D : Addr) (cl : List (Str × Addr)) (fp : List Addr), PG (X.blk s H scope (compEnvC scope cl D X.env) fp) tg g) (htg : TgOk C.quiet (outs n (names.map (·.2))) n g t)
    (ht : ∀ (s : Shared) (H : Hp) (D : Addr) (cl : List (Str × Addr)) (fp : List Addr), PTs (X.blk s H scope (compEnvC scope cl D X.env) fp) ifs (tT C.quiet mt))
    (hk : ∀ (s : Shared) (H : Hp) (D : Addr) (cl : List (Str × Addr)) (fp : List Addr), PE (X.blk s H scope (compEnvC scope cl D X.env) fp) kx (tD C.quiet mk))
    (hv : ∀ (s : Shared) (H : Hp) (D : Addr) (cl : List (Str × Addr)) (fp : List Addr), PE (X.blk s H scope (compEnvC scope cl D X.env) fp) vx (tD C.quiet mv)) (hL : X.N.length = n := by rfl) (hs : ∀ x, foldedSetIterable iter X.env x = pure x := by intro _; rfl) (hK : X.KW = C.K := by rfl) (J : Inv X pins σ H s) (h : tO C (mKComp src t mt mk mv (names.map (·.2))) σ H Q)
    (hRR : ∀ D Cc u m H1, Inv X pins σ H1 u → Q (.ref D) H1 → u.heap.Ns Cc m → FpOk X pins H1 Cc → compPost (model X.prog X.w) X.A X.xe use Qf (.ref D) Cc (.ok .next) u) :
    wpAny (model X.prog X.w) X.A (comprehension (.DictComp kx vx [⟨tg, iter, ifs, 0⟩] scope pos) scope X.env pos2 newDict false (eval iter X.env) use) Qf X.xe s := by
  generalize hvs : names.map (·.2) = vs at htg h
  obtain ⟨F, ρ, sr, p⟩ := h
  have ln : σ.length = n := by rw [J.len, hL]
  have hw : X.w = C.K.w := congrArg Kw.w hK
  -- the whole run, told ahead
  have start : tI C src σ H fun It H1 => ∃ xs ρ1 F1 accF ρF, SR C.K F1 H1 σ ρ1 ∧ WalkD C.K F1 It xs ∧ kcGo t mt mk mv vs xs [] ρ1 = .ok accF ρF ∧ ρF.length = ρ1.length ∧ PostE C (rO C.K) σ ρ1 F1 H1 Q (.ok (.kd accF) (restR ρ1 ρF vs)) := by
    refine ⟨F, ρ, sr, p.part fun xs ρ1 F1 H1 It e1 q1 g1 s1 wk => ?_⟩
    have q1 := q1.on stb_O g1
    cases e : kcGo t mt mk mv vs xs [] ρ1 with
    | ok accF ρF =>
      simp only [e] at q1
      split at q1
      · rename_i hz
        exact ⟨xs, ρ1, F1, accF, ρF, s1, wk, e, hz, q1⟩
      · exact q1.elim
    | _ => simp only [e] at q1; exact q1.elim
  have cells : ∀ y ∈ scope.names, y.2 = .free → ∃ c, X.env.cells.lookup y.1 = some c := fun y hy e => (ok.free y hy e).elim (fun z => J.ok.has _ (.inl z)) fun z => J.ok.has _ (.inr z)
  refine wpAny_comprehension_free (use := use) rfl hs (closure_ok cells) ok.kind (fun y hy e => by rw [ok.uniq y hy, e]) (thn (walk.run pins s σ H _ J start) fun xv sa ha => thn ha fun iv sb got => ?_)
  obtain ⟨it, fp, tn, It, Hb, rfl, Jb, T, st0, fpOk, xs, ρ1, F1, accF, ρF, sr1, wk, run, lenF, post⟩ := got
  refine wpAny_newObj_type (newEnv_comp ?_)
  generalize eD : sb.heap.objs.size = D
  have HbD : Hb D = none := Jb.hok.fresh (Nat.le_of_eq eD)
  have FD : F1 D = none := sr1.sub.free HbD
  -- the empty dict is laid
  generalize esc : ({ sb with heap := sb.heap.push { cls := .type "dict", data := .dict #[] } } : Shared) = sc
  generalize eHc : upd Hb D (KO X.w D []) = Hc
  have Jc : Inv X pins σ Hc sc := by
    rw [← esc, ← eHc]
    refine Jb.laid (t' := sb.toks) (fun b o e => Heap.get?_push_of_some _ e) (Nat.le_of_eq eD) ?_
    rw [← eD]
    exact kd_new (P := X.prog) (xs := []) (beq_eq_false_iff_ne.mpr (Ne.symm (Nat.ne_of_lt Jb.big))) (Nat.zero_le _) .nil (Heap.DictOfH.new sb.heap)
  have esh : sc.heap = sb.heap.push { cls := .type "dict", data := .dict #[] } := by rw [← esc]
  have under : ∀ b ∈ fp, b < sb.heap.objs.size := fun b hb => let ⟨o, e, _⟩ := T.obj _ _ st0 b hb; Heap.lt_size e
  have fpc : ∀ b ∈ fp, FpOk X pins Hc b ∧ b < sc.heap.objs.size := fun b hb => by
    have lo := under b hb
    refine ⟨⟨?_, (fpOk b hb).2⟩, by rw [esh, Heap.size_push]; exact Nat.lt_succ_of_lt lo⟩
    rw [← eHc, upd_ne (by rw [← eD]; exact Nat.ne_of_lt lo)]
    exact (fpOk b hb).1
  have stc : tn 0 sc.heap := T.keep _ _ _ st0 fun b _ o e => by rw [esh]; exact Heap.get?_push_of_some _ e
  have Jd := block_start Jc ok nd fpc
  generalize ecl : cellsFrom (sc.heap.objs.size + 1) scope.names (cloFrom X.env.cells scope.names []) = cl at Jd ⊢
  have pg := hg sc Hc sc.heap.objs.size cl fp
  have pt := ht sc Hc sc.heap.objs.size cl fp
  have pk := hk sc Hc sc.heap.objs.size cl fp
  have pv := hv sc Hc sc.heap.objs.size cl fp
  have bkw : (X.blk sc Hc scope (compEnvC scope cl sc.heap.objs.size X.env) fp).KW = C.K := hK
  rw [hvs] at Jd
  show codeAny _ _ (.compStart (.DictComp kx vx [⟨tg, iter, ifs, 0⟩] scope pos) 0 (.ref it) (.ref D) (compEnvC scope cl sc.heap.objs.size X.env)) (compPost _ X.A X.xe _ _ (.ref D) sc.heap.objs.size) { sc with heap := pushCells (sc.heap.push { cls := .type "dict", data := .dict #[] }) scope.names }
  generalize ece : compEnvC scope cl sc.heap.objs.size X.env = ce at Jd pg pt pk pv bkw ⊢
  have ceL : ce.locals = sc.heap.objs.size := by rw [← ece]; rfl
  generalize esd : ({ sc with heap := pushCells (sc.heap.push { cls := .type "dict", data := .dict #[] }) scope.names } : Shared) = sd at Jd ⊢
  have std : tn 0 sd.heap := T.keep _ _ _ stc fun b _ o e => by rw [← esd]; exact pushCells_keeps _ _ _ _ (Heap.get?_push_of_some _ e)
  have idle : ∀ {σ' : L2.St} {H' : Hp} {s' : Shared}, Inv (X.blk sc Hc scope ce fp) [] σ' H' s' → (∀ b ∈ fp, H' b = none) → ∀ b ∈ fp, FpOk (X.blk sc Hc scope ce fp) [] H' b := fun {σ' H' s'} I' nn b hb =>
    ⟨nn b hb, (I'.ok.exf b hb).1, I'.ok.exfs b hb, .inl hb, fun x c e => (I'.ok.exf b hb).2 x c e, fun q hq => by cases hq⟩
  have mid0 : KMid C (wipe σ vs) ρ1 vs F1 Hb D (wipe σ vs) (wipeR ρ1 vs) F1 Hc [] := by
    have no : ¬ own (wipe σ vs) (wipeR ρ1 vs) D := fun z => by
      obtain ⟨_, u, hu⟩ := own.at (sr1.wipes vs) z
      rw [HbD] at hu; cases hu
    rw [← eHc, hw]
    exact ⟨(sr1.fresh HbD).wipes vs, Grow.fresh HbD, no, FD, [], upd_same, .nil⟩
  have loop : codeAny (model X.prog X.w) X.A (.compLoop (.DictComp kx vx [⟨tg, iter, ifs, 0⟩] scope pos) 0 (.ref it) (.ref D) ce) (compPost (model X.prog X.w) X.A X.xe use Qf (.ref D) sc.heap.objs.size) sd := by
    refine compLoop_anyD (fun m s' => ∃ i H', m = xs.length - i ∧ Inv (X.blk sc Hc scope ce fp) [] (wipe σ vs) H' s' ∧ tn i s'.heap ∧ (∀ b ∈ fp, H' b = none) ∧ KNext C (wipe σ vs) ρ1 vs F1 Hb D t mt mk mv xs accF ρF i H') ?_ xs.length
      ⟨0, Hc, rfl, Jd, std, fun b hb => (fpc b hb).1.1, Nat.zero_le _, F1, ρ1, [], mid0, by rw [List.drop_zero]; exact run⟩
    rintro m se ⟨i, He, rfl, Je, ste, ne, ile, Fe, ρe, acc, mid, rest⟩
    obtain ⟨w1, w2⟩ := wk Fe He i mid.gr.ext mid.sr.sub
    by_cases hlt : i < xs.length
    · obtain ⟨x, ex⟩ : ∃ x, xs[i] = x := ⟨_, rfl⟩
      obtain ⟨go, yl⟩ := w2 x (by rw [← ex]; simp [hlt])
      rw [List.drop_eq_getElem_cons hlt, ex] at rest
      simp only [kcGo] at rest
      refine thnF (T.item (X.blk sc Hc scope ce fp) rfl rfl rfl calm i [] se _ He (fun _ _ => False) Je (idle Je ne) ste go) fun r s6 ⟨u, hr, h6⟩ => ?_
      subst hr
      refine thnF h6 fun _ s7 ⟨v, H7, J7, r7, y7, st7, n7⟩ => ?_
      have J7' := J7.pinned (idle J7 n7) (T.obj _ _ st7)
      obtain ⟨F7, al⟩ := yl v H7 y7
      -- the thing that came
      have came : ∃ sx : SR C.K F7 H7 (wipe σ vs) (wipeR ρe vs), Grow (own (wipe σ vs) (wipeR ρe vs)) (own (wipe σ vs) (wipeR ρe vs)) Fe He F7 H7 ∧ DV C.K F7 v x := by
        cases al with
        | asis h => exact ⟨mid.sr, Grow.refl, h⟩
        | tup hp h => exact ⟨mid.sr.laid hp, Grow.laid hp (mid.sr.sub.free hp), .tup (.inl (.inl upd_same)) (h.upd (mid.sr.sub.free hp))⟩
      obtain ⟨s7', g7, dx⟩ := came
      have mid7 := mid.on g7 s7'
      cases et : t x (wipeR ρe vs) with
      | none => simp only [et] at rest; cases rest
      | some ρ8 =>
        simp only [et] at rest
        refine thnF (pg.run _ s7 _ H7 v u (fun σ8 H8 => wipe σ8 vs = wipe σ vs ∧ KMid C (wipe σ vs) ρ1 vs F1 Hb D σ8 ρ8 F7 H8 acc) J7' r7 (htg v x (wipe σ vs) (wipeR ρe vs) ρ8 F7 H7 _ (by rw [wipe_length]; exact ln) s7' dx et fun σ8 sr8 o8 p8 => ?_)) fun _ s8 ⟨σ8, H8, J8, ew, mid8⟩ => ?_
        · have ew : wipe σ8 vs = wipe σ vs := by
            rw [← wipe_wipe σ vs]
            exact wipe_ext p8.1 fun j hj q => p8.2 j (mem_outs (by rw [wipe_length, ln] at hj; exact hj) q)
          obtain ⟨L, h, tt⟩ := mid7.rows
          exact ⟨ew, sr8, mid7.gr.less o8, fun z => mid7.no (o8 D z), mid7.ft, L, h, tt⟩
        · -- the turn's end
          have fin : ∀ {s' : Shared} {H' F' : Hp} {ρ' : Rho} {acc' : List (PyData × PyData)}, Inv (X.blk sc Hc scope ce fp) ([] ++ pinsAt fp s7.heap) σ8 H' s' → KMid C (wipe σ vs) ρ1 vs F1 Hb D σ8 ρ' F' H' acc' → kcGo t mt mk mv vs (xs.drop (i + 1)) acc' ρ' = .ok accF ρF →
              ∃ m, m < xs.length - i ∧ ∃ j H', m = xs.length - j ∧ Inv (X.blk sc Hc scope ce fp) [] (wipe σ vs) H' s' ∧ tn j s'.heap ∧ (∀ b ∈ fp, H' b = none) ∧ KNext C (wipe σ vs) ρ1 vs F1 Hb D t mt mk mv xs accF ρF j H' := fun {s' H' F' ρ' acc'} I' mid' rest' => by
            have pin' : ∀ b ∈ fp, ∀ o, s7.heap.get? b = some o → s'.heap.get? b = some o ∧ H' b = none := fun b hb o e =>
              let z := I'.pin (b, o) (List.mem_append_right _ (List.mem_append_right _ (mem_pinsAt hb e)))
              ⟨z.1, z.2.1⟩
            have less : ∀ {b : Addr}, own (wipe σ vs) (wipeR ρ' vs) b → own σ8 ρ' b := fun {b} z => by
              rw [← ew] at z
              exact (own.wipes z).1
            have back : SR C.K F' H' (wipe σ vs) (wipeR ρ' vs) := by
              have z := mid'.sr.wipes vs
              rw [ew] at z
              exact z
            refine ⟨xs.length - (i + 1), by omega, i + 1, H', rfl, (I'.unpinned (pins := [])).weak (by rw [← ew, wipe_length]) (fun j v e => ?_), T.keep _ _ _ st7 fun b hb o e => (pin' b hb o e).1, fun b hb => ?_, by omega, F', ρ', acc', ⟨back, mid'.gr.less fun b => less, fun z => mid'.no (less z), mid'.ft, mid'.rows⟩, rest'⟩
            · rw [← ew] at e
              exact (wipe_some e).1
            · obtain ⟨o, e, _⟩ := T.obj _ _ st7 b hb
              exact (pin' b hb o e).2
          cases emt : mt ρ8 with
          | bad => simp only [emt] at rest; cases rest
          | ex y r => simp only [emt] at rest; cases rest
          | ok yes ρ9 =>
            simp only [emt] at rest
            refine thnF (pt.run _ s8 σ8 H8 (fun b H9 => b = yes ∧ ∃ F9, KMid C (wipe σ vs) ρ1 vs F1 Hb D σ8 ρ9 F9 H9 acc) J8 ⟨F7, ρ8, mid8.sr, by rw [emt]; exact fun F9 H9 b g9 s9 eb => ⟨eb, F9, mid8.on g9 s9⟩⟩) fun b s9 ⟨H9, J9, eb, F9, mid9⟩ => ?_
            subst eb
            cases b with
            | false =>
              simp only [Bool.false_eq_true, if_false] at rest ⊢
              exact fin J9 mid9 rest
            | true =>
              simp only [if_true] at rest ⊢
              cases emk : mk ρ9 with
              | bad => simp only [emk] at rest; cases rest
              | ex y r => simp only [emk] at rest; cases rest
              | ok k ρ10 =>
                simp only [emk] at rest
                refine thnF (pk.run _ s9 σ8 H9 (fun y H10 => ∃ F10, KMid C (wipe σ vs) ρ1 vs F1 Hb D σ8 ρ10 F10 H10 acc ∧ DV C.K F10 y k) J9 ⟨F9, ρ9, mid9.sr, by rw [emk]; exact fun F10 H10 y g10 s10 dk => ⟨F10, mid9.on g10 s10, dk⟩⟩) fun z s10 ⟨y, H10, J10, rz, F10, mid10, dk⟩ => ?_
                cases emv : mv ρ10 with
                | bad => simp only [emv] at rest; cases rest
                | ex y r => simp only [emv] at rest; cases rest
                | ok d ρ11 =>
                  simp only [emv] at rest
                  split at rest
                  · rename_i cond
                    refine thnF (pv.run _ s10 σ8 H10 (fun y2 H11 => ∃ F11, KMid C (wipe σ vs) ρ1 vs F1 Hb D σ8 ρ11 F11 H11 acc ∧ DV C.K F11 y k ∧ DV C.K F11 y2 d) J10 ⟨F10, ρ10, mid10.sr, by rw [emv]; exact fun F11 H11 y2 g11 s11 dv => ⟨F11, mid10.on g11 s11, dk.mono g11.ext, dv⟩⟩) fun z2 s11 ⟨y2, H11, J11, rz2, F11, mid11, dk, dv⟩ => ?_
                    obtain ⟨b, rfl⟩ := dv_tup dk cond.1
                    obtain rfl : z = .ref b := rz
                    obtain ⟨L, hH, tt⟩ := mid11.rows
                    have put := mid11.put HbD cond.1 dk dv hH tt
                    have sub := mid11.sr.sub
                    rw [← hw] at hH put
                    rw [← hK] at tt dk
                    exact kd_dset (X := X.blk sc Hc scope ce fp) (by show X.A.units + 8 < cLine; omega) J11 hH sub tt dk cond.1 cond.2 rz2 fun s12 J12 => fin J12 put rest
                  · cases rest
    · have ei : i = xs.length := by omega
      subst ei
      rw [List.drop_length] at rest
      simp only [kcGo, M.ret] at rest
      cases rest
      refine thnF (T.done (X.blk sc Hc scope ce fp) rfl rfl rfl calm _ [] se _ He (fun _ _ => False) Je (idle Je ne) ste (w1 (Nat.le_refl _))) fun r s6 ⟨hr, J6⟩ => ?_
      subst hr
      -- back in the def
      have J7 : Inv X pins σ He s6 := Jc.call' (ch := fp) J6.os J6.base J6.hok J6.bare fun b hb => ⟨(fpc b hb).1.2.2.2.1, (fpc b hb).1.2.1, (fpc b hb).1.2.2.2.2.1, (fpc b hb).1.2.2.2.2.2⟩
      have nC : He sc.heap.objs.size = none := by
        have z : He ce.locals = none := J6.free
        rw [ceL] at z
        exact z
      obtain ⟨m, hn, _⟩ := J6.loc
      have hn : s6.heap.Ns ce.locals m := hn
      rw [ceL] at hn
      refine hRR D sc.heap.objs.size s6 m He J7 ?_ hn (Jc.fpOk (Nat.le_refl _) nC)
      obtain ⟨sf, gf⟩ := sr1.rest mid.sr lenF mid.gr
      obtain ⟨L, hH, tt⟩ := mid.rows
      refine post Fe He (.ref D) gf sf ⟨⟨D, L, rfl, mid.ft, hH, tt⟩, fun _ a ea => ?_⟩
      cases ea
      refine ⟨fun z => ?_, .inl HbD⟩
      rcases gf.ows D z with y | y
      · obtain ⟨_, u, hu⟩ := own.at sr1 y
        rw [HbD] at hu; cases hu
      · obtain ⟨j, o, e1, e2, e3⟩ := z
        by_cases q : j ∈ vs
        · obtain ⟨_, u, hu⟩ := own.at sr1 ⟨j, o, restR_in q e1, e2, e3⟩
          rw [HbD] at hu; cases hu
        · rw [restR_out q] at e1
          exact mid.no ⟨j, o, by rw [wipeR_out q]; exact e1, e2, by rw [wipe_out q]; exact e3⟩
  exact codeAny_compStart_dict loop (T.self X.A 0 _ _ _ std loop)
theorem o_kdc {scope : Scope} {names : List (Str × Nat)} {g : TG} {t : Tgt} {src : M (List PyData)} {mt : M Bool} {mk mv : M PyData} {n : Nat} (hu : X.A.units + 9 < cLine) (calm : X.calm = true) (nd : X.N.Nodup) (walk : PI X tg iter (tI C src)) (ok : BlkOk X.N X.env.scope scope names)
    (hg : ∀ (s : Shared) (H : Hp) (D : Addr) (cl : List (Str × Addr)) (fp : List Addr), PG (X.blk s H scope (compEnvC scope cl D X.env) fp) tg g) (htg : TgOk C.quiet (outs n (names.map (·.2))) n g t)
    (ht : ∀ (s : Shared) (H : Hp) (D : Addr) (cl : List (Str × Addr)) (fp : List Addr), PTs (X.blk s H scope (compEnvC scope cl D X.env) fp) ifs (tT C.quiet mt))
    (hk : ∀ (s : Shared) (H : Hp) (D : Addr) (cl : List (Str × Addr)) (fp : List Addr), PE (X.blk s H scope (compEnvC scope cl D X.env) fp) kx (tD C.quiet mk))
    (hv : ∀ (s : Shared) (H : Hp) (D : Addr) (cl : List (Str × Addr)) (fp : List Addr), PE (X.blk s H scope (compEnvC scope cl D X.env) fp) vx (tD C.quiet mv)) (hL : X.N.length = n := by rfl) (hs : ∀ x, foldedSetIterable iter X.env x = pure x := by intro _; rfl) (hK : X.KW = C.K := by rfl) :
    PE X (.DictComp kx vx [⟨tg, iter, ifs, 0⟩] scope pos) (tO C (mKComp src t mt mk mv (names.map (·.2)))) := by
  refine ⟨fun pins s σ H Q J h => ?_⟩
  rw [arm_eval_DictComp]
  refine kdc_core hu calm nd walk ok hg htg ht hk hv hL hs hK J h fun D Cc u m H1 I' q hn f => ⟨m, hn, fun h2 same => ?_⟩
  obtain ⟨f0, f1, f2, f3, f4, f5⟩ := f
  exact ⟨.ref D, H1, I'.turned (t' := u.toks) (fun b o hb e => (same.2 b hb).trans e) f0 f1 f3 f4 f5, rfl, q⟩
theorem s_setDC {P : List Nat} {i : Nat} {y : Str} {py spos : Pos} {scope : Scope} {names : List (Str × Nat)} {g : TG} {t : Tgt} {src : M (List PyData)} {mt : M Bool} {mk mv : M PyData} {n : Nat} (hu : X.A.units + 9 < cLine) (calm : X.calm = true) (nd : X.N.Nodup) (walk : PI X tg iter (tI C src)) (ok : BlkOk X.N X.env.scope scope names)
    (hg : ∀ (s : Shared) (H : Hp) (D : Addr) (cl : List (Str × Addr)) (fp : List Addr), PG (X.blk s H scope (compEnvC scope cl D X.env) fp) tg g) (htg : TgOk C.quiet (outs n (names.map (·.2))) n g t)
    (ht : ∀ (s : Shared) (H : Hp) (D : Addr) (cl : List (Str × Addr)) (fp : List Addr), PTs (X.blk s H scope (compEnvC scope cl D X.env) fp) ifs (tT C.quiet mt))
    (hk : ∀ (s : Shared) (H : Hp) (D : Addr) (cl : List (Str × Addr)) (fp : List Addr), PE (X.blk s H scope (compEnvC scope cl D X.env) fp) kx (tD C.quiet mk))
    (hv : ∀ (s : Shared) (H : Hp) (D : Addr) (cl : List (Str × Addr)) (fp : List Addr), PE (X.blk s H scope (compEnvC scope cl D X.env) fp) vx (tD C.quiet mv)) (hL : X.N.length = n := by rfl) (hs : ∀ x, foldedSetIterable iter X.env x = pure x := by intro _; rfl) (hK : X.KW = C.K := by rfl) (hy : X.N[i]? = some y) (hyl : X.env.scope.names.lookup y = some .local)
    (hsw : swapsWith (.DictComp kx vx [⟨tg, iter, ifs, 0⟩] scope pos) (some (.Name y py)) spos.line X.env = pure true) (hP : i ∉ P := by decide) :
    PS X (.Assign [.Name y py] (.DictComp kx vx [⟨tg, iter, ifs, 0⟩] scope pos) spos) (tS C P (sSet i (mKComp src t mt mk mv (names.map (·.2))))) := by
  refine ⟨fun pins s σ H E J ⟨F, ρ, sr, p⟩ => ?_⟩
  have h := PostS.set p (by rw [J.len]; exact (List.getElem?_eq_some_iff.mp hy).1) hP
  rw [exec_Assign_Name_used _ _ _ _ hsw]
  refine wpAny_bind (wpAny_standAt (wpAny_bind ?_))
  show wpAny _ X.A (comprehension (.DictComp kx vx [⟨tg, iter, ifs, 0⟩] scope pos) scope X.env (firstIterPos [⟨tg, iter, ifs, 0⟩] pos) newDict false (eval iter X.env) (some (assign (.Name y py) X.env)) >>= fun _ => pure ()) _ _ s
  refine wpAny_bind (thn (kdc_core (Qf := fun _ u => SP X pins E .next u) hu calm nd walk ok hg htg ht hk hv hL hs hK J ⟨F, ρ, sr, h⟩ fun D Cc u m H1 I' q hn f => ?_) fun _ u hq => wpAny_pure (wpAny_pure hq))
  show wpAny _ _ (assign (.Name y py) X.env (.ref D)) _ _ _
  refine wpAny_assign_Name (store_ok2 (v := V.ref D) I' nd hy (.inl hyl) rfl (fun u2 I2 ⟨a, sb, ha⟩ => ?_) (.inr hyl))
  obtain ⟨f0, f1, f2, f3, f4, f5⟩ := f
  have apart : Cc ≠ a := by
    rcases ha with z | z
    · rw [z]; exact f1
    · exact fun e => f4 y a z e.symm
  exact ⟨m, hn.sameBut sb apart, fun h3 sb3 => ⟨_, H1, I2.turned (t' := u2.toks) (fun b o hb e => (sb3.2 b hb).trans e) f0 f1 f3 f4 f5, q⟩⟩
theorem sw_trueD {gs : List Comprehension} {scope : Scope} {pos py : Pos} {y : Str} {l : Nat} {env : Env} (fn : env.scope.kind = .function) (own : env.scope.names.lookup y = some .local) (row : (py.line == pos.line) = true)
    (apart : (scope.names.any fun (n, k) => n == y && (k == .local || k == .cell)) = false) : swapsWith (.DictComp kx vx gs scope pos) (some (.Name y py)) l env = pure true := by
  have k1 : env.kindOf y = some .local := own
  have k2 : env.blockKind = .function := by
    unfold Env.blockKind
    rw [fn]
    rfl
  unfold swapsWith
  simp only [k2, k1, apart, Expr.pos, row]
  rfl
end
end Eg
namespace Eg
open PySem L2 PySem.W PySem.SeqAt PySem.Spec PyProof.Rows
/-! ## sorted(d), sorted(set(xs)): what is gathered is sorted -/
def Kept (s s1 : Shared) : Prop := (∀ b o, s.heap.get? b = some o → s1.heap.get? b = some o) ∧ s1.gens = s.gens ∧ s1.os = s.os ∧ s.heap.objs.size ≤ s1.heap.objs.size
section
variable {P : Program} {w : World} {A : Around} {s : Shared}
theorem sorted_by {E : Value → Shared → Prop} {r : Addr} {G : List Value → Shared → Prop} {Q : Value → Shared → Prop}
    (gather : ∀ (E : Value → Shared → Prop) (R : List Value → Shared → Prop), (∀ vs s1, G vs s1 → R vs s1) → wpAny (model P w) A.in1 (collect (.ref r)) R E s)
    (sq : ∀ vs s1, G vs s1 → vs.length ≤ sizeLine ∧ ∃ κ : PyProof.Rows.KeyKind, SortsAt P w A.in1.in1 { s1 with heap := sortingHeap (s1.heap.push (seqObj "list" vs.toArray 0)) s1.heap.objs.size vs } κ vs ∧
      Q (.ref s1.heap.objs.size) { s1 with heap := sortedHeap (s1.heap.push (seqObj "list" vs.toArray 0)) s1.heap.objs.size vs (sortVals κ false vs vs).toArray }) :
    wpAny (model P w) A (call (.builtin "sorted") [.ref r]) Q E s := by
  refine call_function_entry_kw kind_sorted plain_sorted entry_sorted (args_sorted1 _) ?_
  unfold Builtin.«sorted»
  refine wpAny_bind (m := checkCount "sorted" 1 1 _) (wpAny_pure (wpAny_bind (gather _ _ fun vs s1 g => ?_)))
  obtain ⟨len, κ, S, q⟩ := sq vs s1 g
  refine wpAny_bind (wpAny_newList ?_ len)
  have here : (s1.heap.push (seqObj "list" vs.toArray 0)).get? s1.heap.objs.size = some (seqObj "list" vs.toArray 0) := Heap.get?_push_size _ rfl
  refine wpAny_bind (wpAny_holding (wpAny_call_entry_kw slot_list_sort ⟨_, here, rfl⟩ entry_list_sort ?go (args_list_sort _)))
  case go =>
    show wpAny (model P w) A.in1.in1 (Builtin.«list.sort» ⟨[.ref s1.heap.objs.size], []⟩) _ _ _
    exact list_sort_vals (s := { s1 with heap := s1.heap.push (seqObj "list" vs.toArray 0) }) here S len ⟨_, rfl, wpAny_pure ⟨_, rfl, q⟩⟩
end
section
variable {X : Cx} {pins : List (Addr × Obj)} {σ : L2.St} {F H : Hp} {s : Shared}
abbrev IsD' (K : Kw) (F : Hp) (v : Value) (d : PyData) : Prop := ∃ x, RelV x v ∧ DV K F x d
/-- a list that was laid, whatever else was -/
theorem laid_list {s1 : Shared} {a : Addr} {ws : List V} {out : Array Value} {c : Nat} {Q : VK} (I : Inv X pins σ H s) (k : Kept s s1) (ha : s.heap.objs.size ≤ a) (hl : ws.length ≤ sizeLine) (r : Vals ws out.toList) (h : s1.heap.get? a = some (seqObj "list" out c))
    (q : Q (.ref a) (upd H a (.lst ws))) : EP X pins σ Q (.ref a) s1 := by
  have J : Inv X pins σ (upd H a (.lst ws)) { s with heap := s1.heap, gens := s1.gens, drawn := s1.drawn, toks := s1.toks } :=
    I.call (ch := []) (Un.laid k.1 ha (I.hok.fresh ha)) (I.hok.laid k.1 ha ⟨hl, out.toList, c, r, h⟩) (by rw [k.2.1]; exact I.bare) (fun _ z => nomatch z)
  have e : s1 = { s with heap := s1.heap, gens := s1.gens, drawn := s1.drawn, toks := s1.toks } := by
    obtain ⟨_, _, k3, _⟩ := k
    cases s1
    cases s
    cases k3
    rfl
  rw [e]
  exact ⟨.ref a, _, J, rfl, q⟩
/-- sorted(r), r whatever it is: gathered are data in some order, all of whose orders are sorted alike -/
theorem sorted_dat {r : Addr} {ds : List PyData} {Q : VK} (I : Inv X pins σ H s) (sub : Same F H) (hu : X.A.units + 64 < cLine)
    (gather : ∀ (E : Value → Shared → Prop) (R : List Value → Shared → Prop), (∀ vs s1, (Kept s s1 ∧ ∃ es, EachIs (IsD' X.KW F) vs es ∧ sortOk es = true ∧ sortD es = ds) → R vs s1) → wpAny (model X.prog X.w) X.A.in1 (collect (.ref r)) R E s)
    (q : ∀ a ws, H a = none → DVs X.KW F ws ds → Q (.ref a) (upd H a (.lst ws))) : wpAny (model X.prog X.w) X.A (call (.builtin "sorted") [.ref r]) (EP X pins σ Q) X.xe s := by
  refine sorted_by gather fun vs s1 ⟨k, es, e, ok, eo⟩ => ?_
  obtain ⟨z1, z2, z3, z4⟩ := sortOk_at ok
  have rd : EachIs (fun v d => ∃ as, Reads s.heap v d as) vs es := e.mono fun v d ⟨x, r, h⟩ => (DV.mono sub h).reads I r
  have rd' : EachIs (fun v d => ∃ as, Reads (sortingHeap (s1.heap.push (seqObj "list" vs.toArray 0)) s1.heap.objs.size vs) v d as) vs es :=
    rd.mono fun v d ⟨as, r⟩ => ⟨as, PyProof.Rows.Reads.keeps (fun b o z => sortingHeap_old (Nat.ne_of_lt (Heap.lt_size (k.1 b o z))) (Heap.get?_push_of_some _ (k.1 b o z))) r⟩
  have vl : vs.length ≤ sizeLine := by rw [e.length]; exact z4
  refine ⟨vl, dataKind _ es, SortsAt.data (s := { s1 with heap := sortingHeap (s1.heap.push (seqObj "list" vs.toArray 0)) s1.heap.objs.size vs }) rd' z1 z2 fun d hd => ?_, ?_⟩
  · have := z3 d hd
    show X.A.units + 1 + 1 + d.depth < cLine
    omega
  · have here : (s1.heap.push (seqObj "list" vs.toArray 0)).get? s1.heap.objs.size = some (seqObj "list" vs.toArray 0) := Heap.get?_push_size _ rfl
    generalize eh : s1.heap.push (seqObj "list" vs.toArray 0) = h1 at here rd' ⊢
    have eo2 := sortVals_data (enc := id) (bs := es) false e (by simpa using rd') (by simpa using z1)
    rw [List.map_id] at eo2
    obtain ⟨ws, dv, rv⟩ := each_dvs eo2
    have dv : DVs X.KW F ws (sortD es) := dv
    rw [eo] at dv
    obtain ⟨c, at2⟩ := sortedHeap_at (vs := vs) (out := (sortVals (dataKind (sortingHeap h1 s1.heap.objs.size vs) es) false vs vs).toArray) here
    have low := k.2.2.2
    refine laid_list I (s1 := { s1 with heap := sortedHeap h1 s1.heap.objs.size vs (sortVals (dataKind (sortingHeap h1 s1.heap.objs.size vs) es) false vs vs).toArray }) ⟨fun b o z => ?_, k.2.1, k.2.2.1, ?_⟩ low ?_ (by simpa using rv) at2 (q _ ws (I.hok.fresh low) dv)
    · have lt := Heap.lt_size (k.1 b o z)
      show (sortedHeap h1 s1.heap.objs.size vs _).get? b = some o
      rw [sortedHeap_old (Nat.ne_of_lt lt) (by rw [← eh, size_push']; exact Nat.lt_succ_of_lt lt), ← eh]
      exact Heap.get?_push_of_some _ (k.1 b o z)
    · have lt := Heap.lt_size at2
      exact Nat.le_trans low (Nat.le_of_lt lt)
    · rw [dv.len, ← eo]
      unfold sortD
      rw [List.length_mergeSort]
      exact z4
end
/-! ### of a dict -/
section
variable {P : Program} {w : World} {A : Around} {E : Value → Shared → Prop} {s : Shared} {T : String} {r d : Addr} {n : Nat} {Pv : Nat → Value → Prop} {OK : Heap → Prop}
theorem coll_src {Q : List Value → Shared → Prop} (S : KdlSrc P w T r d n Pv OK) (free : A.handled = none) (ok : OK s.heap) (hz : n ≤ sizeLine)
    (q : ∀ s1 (out : Array Value), Kept s s1 → ItemsOf Pv out n → Q out.toList s1) : wpAny (model P w) A (collect (.ref r)) Q E s := by
  have low := S.there _ ok
  unfold collect
  refine wpAny_bind (wpAny_runValue (codeAny_builtin PySem.F.entry_proto_collect ?_))
  rw [Around.under_plainId PySem.F.plain_proto_collect _]
  show wpAny _ _ (do again (.builtin "list.__iadd__" ⟨[← newList [], .ref r], []⟩)) _ _ s
  refine wpAny_bind (wpAny_newList (wpAny_pure ⟨Code.quiet_builtin _ (by decide +kernel), codeAny_builtin PySem.F.entry_list_iadd ?_⟩))
  rw [Around.under_plainId PySem.F.plain_list_iadd _]
  show wpAny _ A.in1 (Builtin.List.listExtendWith (.ref s.heap.objs.size) (.ref r) (.ref s.heap.objs.size)) _ _ _
  have at0 : (s.heap.push (seqObj "list" #[] 0)).get? s.heap.objs.size = some { cls := .type "list", data := .seq #[] 0 } := Heap.get?_push_size _ rfl
  have fin : ∀ res u, (∃ out c, res = Except.ok (Flow.ret (.ref s.heap.objs.size)) ∧ Kept s u ∧ u.heap.get? s.heap.objs.size = some { cls := .type "list", dict := none, data := .seq out c, slots := #[] } ∧ ItemsOf Pv out n) → (match (res : Result) with
      | .ok (.ret v) => wpAny (model P w) A (match v with
        | .ref a => do
          let o ← load a
          match o.data with
          | .seq xs _ => pure xs.toList
          | _ => unsupported "internal:collect"
        | _ => unsupported "internal:collect") Q E u
      | .ok _ => False
      | .error e => E e u) := fun res u ⟨out, c, e, k, here, items⟩ => by
    subst e
    exact wpAny_bind (wpAny_load here (wpAny_pure (q u out k items)))
  refine wpAny_mono (kdl_extend (s := { s with heap := s.heap.push (seqObj "list" #[] 0) }) (R := fun res u => ∃ out c, res = Except.ok (Flow.ret (.ref s.heap.objs.size)) ∧ Kept s u ∧ u.heap.get? s.heap.objs.size = some { cls := .type "list", dict := none, data := .seq out c, slots := #[] } ∧ ItemsOf Pv out n)
    S free (S.keep _ _ ok fun b _ o e => Heap.get?_push_of_some _ e) s.heap.objs.size (Nat.ne_of_gt low.1) (Nat.ne_of_gt low.2) (.ref s.heap.objs.size) 0 at0
    (fun h' tk out c keep here items => ⟨out, c, rfl, ⟨fun b o e => keep b o (Nat.ne_of_lt (Heap.lt_size e)) (Heap.get?_push_of_some _ e), rfl, rfl, Nat.le_of_lt (Heap.lt_size here)⟩, here, items⟩) hz) (fun f u h => ?_) (fun e u h => ?_)
  · cases f with
    | done f => exact fin _ _ h
    | again c' => exact ⟨h.1, codeAny_mono h.2 fun res u z => fin res u z⟩
  · obtain ⟨_, _, z, _⟩ := h
    cases z
end
theorem kn_keys {K : Kw} {F : Hp} : ∀ {L : List KRow} {kvs : List (PyData × PyData)}, KN K F L kvs → EachIs (IsD' K F) (L.map fun x => Value.ref x.2.1) (kvs.map (·.1))
  | _, _, .nil => .nil
  | _, _, .cons _ _ h _ t => .cons ⟨.ref _, rfl, h⟩ (kn_keys t)
theorem rows_keys : ∀ {L : List KRow} {xs : List HRow}, Paired RowR L xs → (xs.map fun x => Value.ref x.2.1) = L.map fun x => Value.ref x.2.1
  | _, _, .nil => rfl
  | _, _, .cons r q => by rw [List.map_cons, List.map_cons, rows_keys q, r.2.1]
section
variable {X : Cx} {C : Ct} {e : Expr} {pos p : Pos}
/-- a call of a builtin on a dict -/
def CallK (X : Cx) (f : Value) (g : List (PyData × PyData) → Option OD) : Prop :=
  ∀ (pins : List (Addr × Obj)) (s : Shared) (σ : L2.St) (F H : Hp) (a : Addr) (L : List KRow) (kvs : List (PyData × PyData)) (o : OD) (Q : VK), Inv X pins σ H s → Same F H → H a = some (KO X.w a L) → KN X.KW F L kvs → g kvs = some o →
    (∀ F' H' w, Alloc X.KW F H F' H' w o → Q w H') → wpAny (model X.prog X.w) X.A (call f [.ref a]) (EP X pins σ Q) X.xe s
def kSorted (kvs : List (PyData × PyData)) : Option OD := if sortOk (kvs.map (·.1)) = true then some (.ol (sortD (kvs.map (·.1)))) else none
theorem ck_sorted (hc : X.calm = true) (hu : X.A.units + 64 < cLine) : CallK X (.builtin "sorted") kSorted := by
  intro pins s σ F H a L kvs o Q I sub h t e q
  unfold kSorted at e
  split at e <;> cases e
  rename_i ok
  obtain ⟨far, size, xs, r, m⟩ := kd_at I h sub t
  obtain ⟨ob, es, ep, ho, hx, hd, he, _, _⟩ := m
  have n1 : es.size = xs.length := size_of_entries he
  have n2 : L.length = xs.length := Paired.length r
  refine sorted_dat I sub hu (fun E R k => coll_src (kdl_raw far hx hd) (I.ok.hd hc) ho (by omega) fun s1 out kept items => k _ _ ⟨kept, kvs.map (·.1), ?_, ok, rfl⟩) fun b ws hb dv => q F _ (.ref b) (.lst hb dv)
  have eo : out.toList = xs.map fun x => Value.ref x.2.1 := items_out (Pv := fun i v => ∃ en : DictEntry, es[i]? = some en ∧ v = en.key) (by rw [List.length_map, ← n1]; exact items) fun j v ⟨en, hen, hv⟩ => by
    have z := entry_at he j
    rw [hen] at z
    rw [List.getElem?_map]
    cases hj : xs[j]? with
    | none => rw [hj] at z; cases z
    | some y =>
      rw [hj] at z
      cases z
      rw [hv]
      rfl
  rw [eo, rows_keys r]
  exact kn_keys t
def kLen (kvs : List (PyData × PyData)) : Option OD := some (.sh (.int kvs.length))
theorem ck_len : CallK X (.builtin "len") kLen := by
  intro pins s σ F H a L kvs o Q I sub h t e q
  cases e
  obtain ⟨far, size, xs, r, m⟩ := kd_at I h sub t
  have n : xs.length = kvs.length := by rw [← Paired.length r, t.len]
  have n2 := sizeLine_eq
  rw [Paired.length r] at size
  refine call_len_dictH far m (by omega) ?_
  rw [n]
  exact ⟨.int kvs.length, H, I.tok _, ⟨_, rfl⟩, q F H _ (.asis (.int _))⟩
def mKCall (i : Nat) (g : List (PyData × PyData) → Option OD) : M OD := fun ρ => match (dctK ρ[i]?).bind g with
  | some o => .ok o ρ
  | none => .bad
theorem o_kcall {i : Nat} {id : String} {x : Str} {g : List (PyData × PyData) → Option OD} (hc : CallK X (.builtin id) g) (hg : Gl X x) (hm : X.mg x = none) (hv : bootBuiltins x = some (.builtin id)) (ha : PE X e (tVar i)) (hn : x ≠ "__name__" := by decide) (hdb : (x == ("__debug__" : Str)) = false := by decide)
    (he : starEach [e] X.env = (false, eval e X.env) :: starEach [] X.env := by rfl) (hpl : (backTo pos (starEach [] X.env)).any (·.1) = false := by rfl) (hK : X.KW = C.K := by rfl) : PE X (.Call (.Name x p) [e] [] pos) (tO C (mKCall i g)) := by
  refine ⟨fun pins s σ H Q I ⟨F, ρ, sr, pp⟩ => ?_⟩
  unfold mKCall at pp
  cases ek : dctK ρ[i]? with
  | none => rw [ek] at pp; exact pp.elim
  | some kvs =>
    cases eg : g kvs with
    | none => rw [ek, Option.bind_some, eg] at pp; exact pp.elim
    | some o =>
      rw [ek, Option.bind_some, eg] at pp
      obtain ⟨a, L, hv1, hH, hn1⟩ := dctK_at sr ek
      refine wpAny_Call_Name_kw (ld_blt I hg hm hv ?_ hn hdb)
      refine PyProof.Rows.callWith_builtin1 (thn ((pa_cons ha pa_nil he).run pos pins s σ H (fun xs H2 => xs = [V.ref a] ∧ H2 = H) I ⟨_, hv1, rfl, rfl⟩) fun us s1 ⟨vs, H1, I1, r1, e1, e2⟩ => ?_) he hpl
      subst e1 e2
      rw [Vals.ref1 r1]
      rw [← hK] at hH hn1
      exact hc pins s1 σ F H1 a L kvs o Q I1 sr.sub hH hn1 eg fun F' H' w h => Alloc.post sr (hK ▸ h) pp
end
end Eg
namespace Sn
open PySem PyProof.Rows
section
variable {P : Program} {w : World}
/-- the question `what` answers `b` of v, n levels down, and changes nothing -/
def Says (P : Program) (w : World) (what : Nat → Value → Sem Bool) (b : Bool) (n : Nat) (s : Shared) (v : Value) : Prop :=
  ∀ (A : Around) (E : Value → Shared → Prop) (Q : Bool → Shared → Prop), Q b s → wpAny (model P w) A (what n v) Q E s
theorem says_pure {what : Nat → Value → Sem Bool} {b : Bool} {n : Nat} {s : Shared} {v : Value} (h : what n v = pure b) : Says P w what b n s v := fun A E Q q => by
  rw [h]; exact wpAny_pure q
theorem flat_class (n : Nat) (v : Value) (h : ∀ a, v ≠ .ref a) : ofAClassStatement n v = pure false := by
  cases v <;> first | rfl | (cases n <;> rfl) | exact absurd rfl (h _)
theorem tuple_class {n : Nat} {s : Shared} {a : Addr} {o : Obj} {vs : Array Value} {m : Nat} (ho : s.heap.get? a = some o) (hc : o.cls = .type "tuple") (hd : o.data = .seq vs m)
    (hq : ∀ v ∈ vs.toList, Says P w ofAClassStatement false n s v) : Says P w ofAClassStatement false (n + 1) s (.ref a) := fun A E Q q => by
  have hT : s.TypeIs (.ref a) "tuple" := ⟨o, ho, hc⟩
  unfold ofAClassStatement
  refine wpAny_bind (wpAny_typeOf hT ?_)
  dsimp only
  simp only [show (("tuple" : String) == "tuple") = true from by decide, if_true, Bool.not_true, Bool.false_eq_true, if_false]
  try refine wpAny_bind (wpAny_pure ?_)
  try simp only [Bool.not_true, Bool.false_eq_true, if_false]
  show wpAny _ _ (seqItems? (.ref a) >>= _) _ _ s
  refine wpAny_bind (wpAny_seqItems ho hd ?_)
  dsimp only
  refine wpAny_bind ?_
  show wpAny _ _ (forIn vs _ _) _ _ s
  rw [← Array.forIn_toList]
  refine wpAny_forIn_list _ (fun left r t => r.1 = none ∧ t = s ∧ ∀ v ∈ left, Says P w ofAClassStatement false n s v) _ ?_ ?_ _ _ ⟨rfl, rfl, hq⟩
  · rintro v left r t ⟨hr, rfl, hall⟩
    refine wpAny_bind (hall v List.mem_cons_self _ _ _ ?_)
    simp only [Bool.false_eq_true, if_false]
    exact wpAny_pure ⟨rfl, rfl, fun u hu => hall u (List.mem_cons_of_mem _ hu)⟩
  · rintro ⟨r1, r2⟩ t ⟨hr, rfl, _⟩
    simp only at hr
    subst hr
    exact wpAny_pure q
mutual
theorem key_class : ∀ (k : NestedKey) (v : Value) (n : Nat) (s : Shared), NestedIs s.heap k v → k.depth ≤ n → Says P w ofAClassStatement false n s v
  | .none, _, n, s, x, _ => by cases x; exact says_pure (flat_class n _ (fun a z => by cases z))
  | .num i, _, n, s, x, _ => by cases x <;> exact says_pure (flat_class n _ (fun a z => by cases z))
  | .text y, _, n, s, x, _ => by cases x; exact says_pure (flat_class n _ (fun a z => by cases z))
  | .tup ks, _, n, s, x, hn => by
    cases x with
    | tup hg hc hd hk =>
      simp only [NestedKey.depth] at hn
      cases n with
      | zero => omega
      | succ n => exact tuple_class hg hc hd (keys_class ks _ n s hk (by omega))
theorem keys_class : ∀ (ks : List NestedKey) (vs : List Value) (n : Nat) (s : Shared), NestedAll s.heap ks vs → NestedKey.depthAll ks ≤ n → ∀ v ∈ vs, Says P w ofAClassStatement false n s v
  | [], _, n, s, x, _, v, hv => by cases x; cases hv
  | k :: ks, _, n, s, x, hn, v, hv => by
    cases x with
    | cons x1 x2 =>
      simp only [NestedKey.depthAll] at hn
      rcases List.mem_cons.mp hv with e | hv
      · rw [e]; exact key_class k _ n s x1 (by omega)
      · exact keys_class ks _ n s x2 (by omega) v hv
end
end
end Sn
namespace Sn
open PySem PyProof.Rows L2
section
variable {P : Program} {w : World} {A : Around} {E : Value → Shared → Prop} {s : Shared}
/-- to look for a nested key among nested keys shows nobody anything -/
theorem unseen {k : NestedKey} {b : Addr} {Q : Bool → Shared → Prop} (hk : (nestedKind P w).is s.heap k b) {ys : List Value} (hy : ∀ y ∈ ys, ∃ j c, y = Value.ref c ∧ (nestedKind P w).is s.heap j c) (h : Q false s) :
    wpAny (model P w) A (searchCouldBeSeen (.ref b) ys) Q E s := by
  have q1 : ∀ {j : NestedKey} {c : Addr}, (nestedKind P w).is s.heap j c → Says P w eqIsQuiet true 8 s (.ref c) := fun hj A E Q q => quiet_key _ _ 8 s hj.1 hj.2 A E Q q
  have q2 : ∀ {j : NestedKey} {c : Addr}, (nestedKind P w).is s.heap j c → Says P w ofAClassStatement false 8 s (.ref c) := fun hj => key_class _ _ 8 s hj.1 hj.2
  unfold searchCouldBeSeen
  refine wpAny_bind ?_
  refine wpAny_forIn_list _ (fun left r t => r.1 = none ∧ t = s ∧ ∀ y ∈ left, ∃ j c, y = Value.ref c ∧ (nestedKind P w).is s.heap j c) _ ?_ ?_ _ _ ⟨rfl, rfl, hy⟩
  · rintro v left r t ⟨hr, rfl, hall⟩
    obtain ⟨j, c, rfl, hc⟩ := hall v List.mem_cons_self
    have hl : ∀ y ∈ left, ∃ j c, y = Value.ref c ∧ (nestedKind P w).is t.heap j c := fun u hu => hall u (List.mem_cons_of_mem _ hu)
    dsimp only
    by_cases hv : (b == c || (carriedByValue (.ref b) && carriedByValue (.ref c))) = true
    · exact wp_if_pos hv (wpAny_pure ⟨rfl, rfl, hl⟩)
    · refine wp_if_neg hv ?_
      refine wpAny_bind (q1 hk _ _ _ ?_)
      simp only [Bool.not_true, Bool.false_eq_true, if_false]
      refine wpAny_bind (q1 hc _ _ _ ?_)
      simp only [Bool.not_true, Bool.false_eq_true, if_false]
      refine wpAny_bind (q2 hk _ _ _ ?_)
      simp only [Bool.false_eq_true, if_false]
      refine wpAny_bind (q2 hc _ _ _ ?_)
      simp only [Bool.false_eq_true, if_false]
      exact wpAny_pure ⟨rfl, rfl, hl⟩
  · rintro ⟨r1, r2⟩ t ⟨hr, rfl, _⟩
    simp only at hr
    subst hr
    exact wpAny_pure h
end
section
variable {P : Program} {w : World}
mutual
/-- hashed by its value: no text is -/
def byVal : NestedKey → Bool
  | .none => true
  | .num _ => true
  | .text _ => false
  | .tup ks => byVals ks
def byVals : List NestedKey → Bool
  | [] => true
  | k :: ks => byVal k && byVals ks
end
/-- a value, and what hashByValue says of it -/
def HashBy (P : Program) (w : World) (n : Nat) (s : Shared) (b : Bool) (v : Value) : Prop := Says P w hashByValue b n s v
inductive HashAll (P : Program) (w : World) (n : Nat) (s : Shared) : Bool → List Value → Prop
  | nil : HashAll P w n s true []
  | cons {b c : Bool} {v : Value} {vs : List Value} : HashBy P w n s b v → HashAll P w n s c vs → HashAll P w n s (b && c) (v :: vs)
theorem tuple_hashBy {n : Nat} {s : Shared} {a : Addr} {o : Obj} {vs : Array Value} {m : Nat} {b : Bool} (ho : s.heap.get? a = some o) (hc : o.cls = .type "tuple") (hd : o.data = .seq vs m)
    (hq : HashAll P w n s b vs.toList) : HashBy P w (n + 1) s b (.ref a) := fun A E Q q => by
  have hT : s.TypeIs (.ref a) "tuple" := ⟨o, ho, hc⟩
  unfold hashByValue
  refine wpAny_bind (wpAny_specialOf hT F.slot_tuple_hash.lookup ?_)
  show wpAny _ _ (seqItems? (.ref a) >>= _) _ _ s
  refine wpAny_bind (wpAny_seqItems ho hd ?_)
  refine wpAny_bind ?_
  show wpAny _ _ (forIn vs _ _) _ _ s
  rw [← Array.forIn_toList]
  refine wpAny_forIn_list _ (fun left r t => r.1 = none ∧ t = s ∧ HashAll P w n s b left) _ ?_ ?_ _ _ ⟨rfl, rfl, hq⟩
  · rintro v left r t ⟨hr, rfl, h⟩
    cases h with
    | @cons b1 c1 _ _ h1 h2 =>
      refine wpAny_bind (h1 _ _ _ ?_)
      cases b1 with
      | true =>
        simp only [Bool.not_true, Bool.false_eq_true, if_false]
        exact wpAny_pure ⟨rfl, rfl, by simpa using h2⟩
      | false =>
        simp only [Bool.not_false, if_true]
        exact wpAny_pure (wpAny_pure q)
  · rintro ⟨r1, r2⟩ t ⟨hr, rfl, h⟩
    simp only at hr
    subst hr
    cases h
    exact wpAny_pure q
mutual
theorem key_hashBy : ∀ (k : NestedKey) (v : Value) (n : Nat) (s : Shared), NestedIs s.heap k v → k.depth ≤ n → HashBy P w n s (byVal k) v
  | .none, _, n, s, x, _ => by cases x; exact says_pure (by cases n <;> rfl)
  | .num i, _, n, s, x, _ => by cases x <;> exact says_pure (by cases n <;> rfl)
  | .text y, _, n, s, x, _ => by cases x; exact says_pure (by cases n <;> rfl)
  | .tup ks, _, n, s, x, hn => by
    cases x with
    | tup hg hc hd hk =>
      simp only [NestedKey.depth] at hn
      cases n with
      | zero => omega
      | succ n => exact tuple_hashBy hg hc hd (keys_hashBy ks _ n s hk (by omega))
theorem keys_hashBy : ∀ (ks : List NestedKey) (vs : List Value) (n : Nat) (s : Shared), NestedAll s.heap ks vs → NestedKey.depthAll ks ≤ n → HashAll P w n s (byVals ks) vs
  | [], _, n, s, x, _ => by cases x; exact .nil
  | k :: ks, _, n, s, x, hn => by
    cases x with
    | cons x1 x2 =>
      simp only [NestedKey.depthAll] at hn
      exact .cons (key_hashBy k _ n s x1 (by omega)) (keys_hashBy ks _ n s x2 (by omega))
end
end
end Sn
namespace Sn
open PySem PyProof.Rows L2
/-- the probe for the hash H when c steps are gone -/
def spot (t : SetTable) (H : Int) (c : Nat) : SetTable.Probe := nth t.mask (runAt t.mask (SetTable.bits H % (t.mask + 1)) (SetTable.bits H)) c
theorem spot_j (t : SetTable) (H : Int) (c : Nat) : (spot t H c).j = way t.mask H c := rfl
theorem spot_on (t : SetTable) (H : Int) (c q : Nat) : nth t.mask (spot t H c) q = spot t H (c + q) := (nth_add t.mask c _ q).symm
theorem spot_dummy (t : SetTable) (H : Int) : ∀ c, (spot t H c).dummy = none := by
  have go : ∀ (n : Nat) (p : SetTable.Probe), p.dummy = none → (nth t.mask p n).dummy = none := by
    intro n
    induction n with
    | zero => exact fun p h => h
    | succ n ih => exact fun p h => ih _ (by unfold adv; split <;> exact h)
  exact fun c => go c _ rfl
theorem hash_here {t : SetTable} {hs : List Int} (T : TabOk t hs) {i j : Nat} (h : t.place.toList[i]? = some j) : ∃ x, hs[i]? = some x := by
  have h1 : i < t.place.toList.length := (List.getElem?_eq_some_iff.mp h).1
  rw [Array.length_toList, T.sz] at h1
  exact ⟨_, List.getElem?_eq_getElem h1⟩
/-- what the table says from the c-th step on -/
theorem probe_at {t : SetTable} {hs : List Int} (T : TabOk t hs) {f : Nat → Int} (hf : ∀ i x, hs[i]? = some x → f i = x) {H : Int} {K c : Nat} (hK : way t.mask H K ∉ t.place.toList)
    (hb : ∀ k, k < K → way t.mask H k ∈ t.place.toList) (hm : K < 10 * SetTable.turns t.mask) (hc : c ≤ K) :
    (∃ (q i : Nat), c + q < K ∧ t.place.toList[i]? = some (way t.mask H (c + q)) ∧ hs[i]? = some H ∧ (∀ (q' i' : Nat), q' < q → t.place.toList[i']? = some (way t.mask H (c + q')) → hs[i']? ≠ some H) ∧
      t.probe f H (spot t H c) = some (.candidate (way t.mask H (c + q)) i (spot t H (c + (q + 1))))) ∨
    ((∀ (q i : Nat), c + q < K → t.place.toList[i]? = some (way t.mask H (c + q)) → hs[i]? ≠ some H) ∧ t.probe f H (spot t H c) = some (.empty (way t.mask H K) none)) := by
  have e : ∀ q, (nth t.mask (spot t H c) q).j = way t.mask H (c + q) := fun q => by rw [spot_on]; rfl
  have sp := go_spec t T.ris T.dm f H (10 * SetTable.turns t.mask) (K - c) (spot t H c) (spot_dummy t H c) (by omega) (fun q hq => by rw [e]; exact hb _ (by omega)) (by rw [e, show c + (K - c) = K by omega]; exact hK)
  have ne : ∀ i j, t.place.toList[i]? = some j → f i ≠ H → hs[i]? ≠ some H := fun i j _ h z => h (hf i H z)
  rcases sp with ⟨q, i, hq, hi, hh, hno, hp⟩ | ⟨hno, hp⟩
  · refine .inl ⟨q, i, by omega, by rw [← e]; exact hi, ?_, fun q' i' h1 h2 => ne i' _ h2 (hno q' i' h1 (by rw [e]; exact h2)), ?_⟩
    · obtain ⟨x, hx⟩ := hash_here T hi
      rw [hx, ← hf i x hx, hh]
    · rw [← e, ← spot_on]; exact hp
  · refine .inr ⟨fun q i h1 h2 => ne i _ h2 (hno q i (by omega) (by rw [e]; exact h2)), ?_⟩
    have : way t.mask H K = (nth t.mask (spot t H c) (K - c)).j := by rw [e, show c + (K - c) = K by omega]
    rw [this]
    exact hp
end Sn
namespace Sn
open PySem PyProof.Rows L2
section
variable {P : Program} {w : World} {A : Around} {E : Value → Shared → Prop} {s : Shared}
/-- a set of nested keys, as it stands in the heap -/
structure NSet (P : Program) (w : World) (h : Heap) (a : Addr) (L : List (Addr × NestedKey)) (es : Array (Int × Value)) (ep : Nat) (t : SetTable) : Prop where
  here : ∃ o, h.get? a = some o ∧ o.ExactSet ∧ o.data = .set es ep t
  rows : es.toList = L.map fun p => (p.2.hash w, Value.ref p.1)
  tab : TabOk t (L.map fun p => p.2.hash w)
  nodup : (L.map (·.2)).Nodup
  keys : ∀ p ∈ L, (nestedKind P w).is h p.2 p.1
  room : L.length * 5 < t.mask * 3
  few : L.length < 64
  led : w.params.followText "set-order" = true ∨ t.led = true
variable {a : Addr} {L : List (Addr × NestedKey)} {es : Array (Int × Value)} {ep : Nat} {t : SetTable}
theorem NSet.size (R : NSet P w s.heap a L es ep t) : es.size = L.length := by
  rw [← Array.length_toList, R.rows, List.length_map]
theorem NSet.row (R : NSet P w s.heap a L es ep t) {i : Nat} {p : Addr × NestedKey} (h : L[i]? = some p) : es[i]? = some (p.2.hash w, Value.ref p.1) := by
  rw [← Array.getElem?_toList, R.rows, List.getElem?_map, h]
  rfl
theorem NSet.fits (R : NSet P w s.heap a L es ep t) : t.fits es.size = true := by
  have h1 : t.place.size = es.size := by rw [R.size, R.tab.sz, List.length_map]
  have h2 := R.size
  have h3 := R.room
  unfold SetTable.fits SetTable.fill
  rw [R.tab.dm]
  simp only [Bool.and_eq_true, beq_iff_eq, decide_eq_true_eq]
  exact ⟨h1, by show t.place.size + 0 ≤ t.mask; omega⟩
theorem NSet.whole (R : NSet P w s.heap a L es ep t) : ¬ t.gaveWay = true := by
  unfold SetTable.gaveWay
  rw [mask_odd R.tab.mok]
  decide
theorem NSet.there (R : NSet P w s.heap a L es ep t) {i j : Nat} (h : t.place.toList[i]? = some j) : ∃ p, L[i]? = some p ∧ p ∈ L := by
  obtain ⟨x, hx⟩ := hash_here R.tab h
  rw [List.getElem?_map] at hx
  cases e : L[i]? with
  | none => rw [e] at hx; cases hx
  | some p => exact ⟨p, rfl, List.mem_of_getElem? e⟩
/-- the look for k goes on from the c-th step -/
theorem look (R : NSet P w s.heap a L es ep t) {x : Addr} {k : NestedKey} (hx : (nestedKind P w).is s.heap k x) (hu : (nestedKind P w).room A) {K : Nat} (hm : K < 10 * SetTable.turns t.mask)
    (hK : way t.mask (k.hash w) K ∉ t.place.toList) (hb : ∀ c, c < K → way t.mask (k.hash w) c ∈ t.place.toList) {Q : SetFound → Shared → Prop}
    (yes : k ∈ L.map (·.2) → Q (.there none) s) (no : k ∉ L.map (·.2) → Q (.free (way t.mask (k.hash w) K) false) s) :
    ∀ (f c : Nat) (stand : Option SetTable.Probe), stand.getD (t.probeStart (k.hash w)) = spot t (k.hash w) c → c ≤ K → K - c < f →
      (∀ (i : Nat) p, L[i]? = some p → p.2 = k → ∃ c', c ≤ c' ∧ c' < K ∧ t.place.toList[i]? = some (way t.mask (k.hash w) c')) →
      wpAny (model P w) A (setSearchFrom a (.ref x) (k.hash w) true f stand) Q E s
  | 0, c, stand, _, _, hf, _ => absurd hf (Nat.not_lt_zero _)
  | f + 1, c, stand, hst, hc, hf, ahead => by
    obtain ⟨o, ho, hex, hd⟩ := R.here
    have hash : ∀ (i : Nat) (y : Int), (L.map fun p => p.2.hash w)[i]? = some y → (fun i : Nat => (es[i]?.map (·.1)).getD 0) i = y := fun i y h => by
      rw [List.getElem?_map] at h
      cases e : L[i]? with
      | none => rw [e] at h; cases h
      | some p => rw [e] at h; cases h; show (es[i]?.map (·.1)).getD 0 = _; rw [R.row e]; rfl
    have hashOf : ∀ {i : Nat} {p : Addr × NestedKey}, L[i]? = some p → p.2 = k → (L.map fun p => p.2.hash w)[i]? = some (k.hash w) := fun h e => by rw [List.getElem?_map, h, ← e]; rfl
    rw [setSearchFrom_succ]
    refine wpAny_bind (wpAny_setState_of ho hd R.fits ?_)
    dsimp only
    refine wp_if_neg R.whole ?_
    try refine wpAny_bind (wpAny_pure ?_)
    rw [hst]
    rcases probe_at R.tab hash (H := k.hash w) hK hb hm hc with ⟨q, i, hq, hi, hh, none1, hp⟩ | ⟨none1, hp⟩
    · rw [hp]
      dsimp only
      obtain ⟨p, hpi, hpL⟩ := R.there hi
      have go : wpAny (model P w) A (searchRest a (.ref x) (k.hash w) true f es t (way t.mask (k.hash w) (c + q)) i (spot t (k.hash w) (c + (q + 1)))) Q E s := by
        unfold searchRest
        rw [R.row hpi]
        dsimp only
        refine wpAny_bind (wpAny_holding ((nestedKind P w).eqBool hu (R.keys p hpL) hx ?_))
        refine wpAny_bind (wpAny_setState_of ho hd R.fits ?_)
        dsimp only
        by_cases e : p.2 = k
        · exact wp_if_pos (by simp [e]) (wpAny_pure (yes (List.mem_map.mpr ⟨p, hpL, e⟩)))
        · refine wp_if_neg (by simp [e]) ?_
          try refine wpAny_bind (wpAny_pure ?_)
          rw [sameMem]
          dsimp only
          have sl : t.slot (way t.mask (k.hash w) (c + q)) = .live i := slot_live R.tab.ris hi
          simp only [if_true, sl, R.row hpi]
          refine wpAny_bind (wpAny_isSame_ref_self (wpAny_bind (wpAny_pure ?_)))
          simp only [if_true]
          refine wp_if_neg (by simp [e]) ?_
          refine look R hx hu hm hK hb yes no f (c + (q + 1)) _ rfl (by omega) (by omega) fun i1 p1 h1 e1 => ?_
          obtain ⟨c', z1, z2, z3⟩ := ahead i1 p1 h1 e1
          refine ⟨c', ?_, z2, z3⟩
          by_cases lt : c' < c + q
          · exact absurd (hashOf h1 e1) (none1 (c' - c) i1 (by omega) (by rw [show c + (c' - c) = c' by omega]; exact z3))
          · by_cases eq : c' = c + q
            · exfalso
              rw [eq] at z3
              have := slot_live R.tab.ris z3
              rw [sl] at this
              injection this with this
              rw [← this, hpi] at h1
              exact e (by rw [Option.some.inj h1]; exact e1)
            · omega
      by_cases hl : t.led = true
      · refine wp_if_neg (by simp [hl]) ?_
        try refine wpAny_bind (wpAny_pure ?_)
        exact go
      · refine wp_if_pos (by simp [hl]) ?_
        refine wpAny_bind (unseen hx (fun y hy => ?_) ?_)
        · obtain ⟨e, he, rfl⟩ := List.mem_map.mp hy
          have he1 : e ∈ es := by simpa using (by simpa using he : e ∈ es ∧ e.1 = k.hash w).1
          have he2 : e ∈ es.toList := by simpa using he1
          rw [R.rows] at he2
          obtain ⟨p2, hp2, rfl⟩ := List.mem_map.mp he2
          exact ⟨p2.2, p2.1, rfl, R.keys p2 hp2⟩
        · refine wp_if_neg (by decide) ?_
          try refine wpAny_bind (wpAny_pure ?_)
          exact go
    · rw [hp]
      dsimp only
      refine wpAny_pure (no fun hk => ?_)
      obtain ⟨p, hpL, e⟩ := List.mem_map.mp hk
      obtain ⟨i, hi, hpe⟩ := List.getElem_of_mem hpL
      have hpi : L[i]? = some p := by rw [List.getElem?_eq_getElem hi, hpe]
      obtain ⟨c', z1, z2, z3⟩ := ahead i p hpi e
      exact none1 (c' - c) i (by omega) (by rw [show c + (c' - c) = c' by omega]; exact z3) (hashOf hpi e)
end
end Sn
namespace Sn
open PySem PyProof.Rows L2
section
variable {P : Program} {w : World} {A : Around} {E : Value → Shared → Prop} {s : Shared} {a : Addr} {L : List (Addr × NestedKey)} {es : Array (Int × Value)} {ep : Nat} {t : SetTable}
/-- the look from its beginning, as adding asks for it -/
theorem look_all (R : NSet P w s.heap a L es ep t) {x : Addr} {k : NestedKey} (hx : (nestedKind P w).is s.heap k x) (hu : (nestedKind P w).room A) {Q : SetFound → Shared → Prop}
    (yes : k ∈ L.map (·.2) → Q (.there none) s)
    (no : ∀ K, k ∉ L.map (·.2) → way t.mask (k.hash w) K ∉ t.place.toList → (∀ c, c < K → way t.mask (k.hash w) c ∈ t.place.toList) → Q (.free (way t.mask (k.hash w) K) false) s) :
    wpAny (model P w) A (setSearch a (.ref x) (k.hash w) true) Q E s := by
  have hr := R.room
  obtain ⟨K, hm, hK, hb⟩ := R.tab.first (by rw [List.length_map]; omega) (k.hash w)
  have big : K < 100000 := by
    have : 10 * SetTable.turns t.mask < 100000 := by
      unfold SetTable.turns
      rcases R.tab.mok with e | e | e <;> omega
    omega
  unfold setSearch
  refine look R hx hu hm hK hb yes (fun h => no K h hK hb) 100000 0 none rfl (Nat.zero_le _) (by omega) fun i p hp hk => ?_
  have hi : (L.map fun p => p.2.hash w)[i]? = some (k.hash w) := by rw [List.getElem?_map, hp, ← hk]; rfl
  have hil : i < t.place.toList.length := by
    have h1 : i < L.length := (List.getElem?_eq_some_iff.mp hp).1
    rw [Array.length_toList, R.tab.sz, List.length_map]
    exact h1
  have hj := List.getElem?_eq_getElem hil
  obtain ⟨c, hc, e⟩ := R.tab.before hK hi hj
  exact ⟨c, Nat.zero_le _, hc, by rw [hj, e]⟩
/-- a key that holds in a heap holds where a set alone was written -/
theorem key_same {h h' : Heap} {k : NestedKey} {b : Addr} {o : Obj} (hb : (nestedKind P w).is h k b) (ho : h.get? a = some o) (hd : o.data = .set es ep t) (sb : Heap.SameBut a h h') : (nestedKind P w).is h' k b :=
  ⟨NestedIs.at (fun c oc vs n hc he => (sb.2 c fun e => by
    subst e
    rw [ho] at hc
    cases hc
    rw [hd] at he
    cases he).trans hc) k _ hb.1, hb.2⟩
end
end Sn
namespace Sn
open PySem PyProof.Rows L2
theorem range_pick {α : Type} : ∀ L : List α, (List.range L.length).filterMap (fun i => L[i]?) = L
  | [] => rfl
  | x :: L => by
    rw [List.length_cons, List.range_succ_eq_map, List.filterMap_cons, List.filterMap_map]
    show x :: (List.range L.length).filterMap (fun i => L[i]?) = _
    rw [range_pick L]
theorem pick_perm {α : Type} {L : List α} {order : List Nat} (h : order.Perm (List.range L.length)) : (order.filterMap fun i => L[i]?).Perm L := by
  have := h.filterMap (fun i => L[i]?)
  rw [range_pick] at this
  exact this
theorem pick_map {α β : Type} {L : List α} (f : α → β) : ∀ order : List Nat, (order.filterMap fun i => (L.map f)[i]?) = (order.filterMap fun i => L[i]?).map f
  | [] => rfl
  | i :: order => by
    rw [List.filterMap_cons, List.filterMap_cons, List.getElem?_map, pick_map f order]
    cases L[i]? <;> rfl
theorem pick_getD {α β : Type} {L : List α} (f : α → β) (d : β) : ∀ order : List Nat, (∀ i ∈ order, i < L.length) → (order.filterMap fun i => L[i]?).map f = order.map fun i => (L.map f).getD i d
  | [], _ => rfl
  | i :: order, h => by
    have hi := h i List.mem_cons_self
    rw [List.filterMap_cons, List.getElem?_eq_getElem hi, List.map_cons, List.map_cons, pick_getD f d order fun j hj => h j (List.mem_cons_of_mem _ hj)]
    congr 1
    simp [List.getD, List.getElem?_map, List.getElem?_eq_getElem hi]
section
variable {P : Program} {w : World} {A : Around} {E : Value → Shared → Prop} {s : Shared} {a : Addr} {L : List (Addr × NestedKey)} {es : Array (Int × Value)} {ep : Nat} {t : SetTable}
/-- the table is laid anew, greater -/
theorem lay_anew {o : Obj} (ho : s.heap.get? a = some o) (hex : o.ExactSet) (hd : o.data = .set es ep t) (rows : es.toList = L.map fun p => (p.2.hash w, Value.ref p.1)) (T : TabOk t (L.map fun p => p.2.hash w)) (hfl : L.length ≤ t.mask)
    (nd : (L.map (·.2)).Nodup) (keys : ∀ p ∈ L, (nestedKind P w).is s.heap p.2 p.1) (few : L.length < 64) (led : w.params.followText "set-order" = true ∨ t.led = true) {wanted M : Nat}
    (hw : SetTable.sizeAbove wanted - 1 = M) (hM : MaskOk M) (hw2 : SetTable.sizeAbove wanted ≤ 128) (hn : L.length * 5 < M * 3) {Q : Unit → Shared → Prop}
    (hQ : ∀ h' L' es' ep' t', Heap.SameBut a s.heap h' → NSet P w h' a L' es' ep' t' → L'.Perm L → Q () { s with heap := h' }) : wpAny (model P w) A (setRelay a wanted) Q E s := by
  have hsl : es.size = L.length := by rw [← Array.length_toList, rows, List.length_map]
  have hpl : t.place.size = es.size := by rw [hsl, T.sz, List.length_map]
  have hfits : t.fits es.size = true := by
    unfold SetTable.fits SetTable.fill
    rw [T.dm]
    simp only [Bool.and_eq_true, beq_iff_eq, decide_eq_true_eq]
    exact ⟨hpl, by show t.place.size + 0 ≤ t.mask; omega⟩
  obtain ⟨t', order, e, hp, T', em, el, _, _⟩ := relaid_ok t (hs := es.map (·.1)) (wanted := wanted) hw hM (by rw [Array.size_map, hsl]; omega)
  rw [Array.size_map, hsl] at hp
  have r1 : (order.filterMap (es[·]?)).toList = (order.toList.filterMap fun i => L[i]?).map fun p => (p.2.hash w, Value.ref p.1) := by
    rw [Array.toList_filterMap, ← pick_map]
    congr 1
    funext i
    rw [← rows, Array.getElem?_toList]
  have r2 : (order.toList.filterMap fun i => L[i]?).Perm L := pick_perm hp
  have r3 : ((order.toList.filterMap fun i => L[i]?).map fun p => p.2.hash w) = order.toList.map fun i => (es.map (·.1)).getD i 0 := by
    rw [pick_getD (fun p : Addr × NestedKey => p.2.hash w) 0 order.toList fun i hi => List.mem_range.mp (hp.mem_iff.mp hi)]
    refine List.map_congr_left fun i _ => ?_
    rw [Array.getD_eq_getD_getElem?, ← Array.getElem?_toList, Array.toList_map, rows, List.map_map]
    simp only [List.getD, List.getElem?_map]
    rfl
  rw [← r3] at T'
  generalize (order.toList.filterMap fun i => L[i]?) = L2 at r1 r2 r3 T'
  have hs2 : (order.filterMap (es[·]?)).size = es.size := by rw [← Array.length_toList, r1, List.length_map, r2.length_eq, hsl]
  rw [setRelay_eq]
  refine wpAny_bind (wpAny_setState_of ho hd hfits ?_)
  dsimp only
  refine wp_if_neg (by rw [sizeLine_eq]; omega) ?_
  try refine wpAny_bind (wpAny_pure ?_)
  rw [e]
  dsimp only
  refine wpAny_bind ?_
  refine wp_if_neg (by rw [hs2]; simp) ?_
  try refine wpAny_bind (wpAny_pure ?_)
  refine wpAny_pure ?_
  dsimp only
  refine wpAny_storeSet_of ho hd ?_ (by rw [hs2, hsl, sizeLine_eq]; omega)
  have sb : Heap.SameBut a s.heap (s.heap.update a (Obj.putSet (order.filterMap (es[·]?)) t')) := Heap.SameBut.update ..
  refine hQ _ L2 (order.filterMap (es[·]?)) (ep + 1) t' sb ⟨⟨_, store_at ho hd, ⟨hex.1, hex.2.1, hex.2.2⟩, rfl⟩, r1, T', ?_, fun p hpm => key_same (keys p (r2.mem_iff.mp hpm)) ho hd sb, ?_, by rw [r2.length_eq]; exact few, by rw [el]; exact led⟩ r2
  · exact (r2.map (·.2)).nodup_iff.mpr nd
  · rw [r2.length_eq, em]; exact hn
end
end Sn
namespace Sn
open PySem PyProof.Rows L2
section
variable {P : Program} {w : World} {A : Around} {E : Value → Shared → Prop} {s : Shared} {a : Addr} {L : List (Addr × NestedKey)} {es : Array (Int × Value)} {ep : Nat} {t : SetTable}
theorem TabOk.plainly {t : SetTable} {hs : List Int} (T : TabOk t hs) (b : Bool) : TabOk { t with plain := b } hs := ⟨T.ris, T.dm, T.sz, T.mok, T.bd, T.reach⟩
/-- set.add of a nested key -/
theorem put_key (R : NSet P w s.heap a L es ep t) {x : Addr} {k : NestedKey} (hx : (nestedKind P w).is s.heap k x) (hu : (nestedKind P w).room A) (few : L.length + 1 < 64) {Q : Bool → Shared → Prop}
    (hQ : ∀ b h' L' es' ep' t', Heap.SameBut a s.heap h' → NSet P w h' a L' es' ep' t' → (k ∈ L.map (·.2) → L' = L) → (k ∉ L.map (·.2) → L'.Perm ((x, k) :: L)) → Q b { s with heap := h' }) :
    wpAny (model P w) A (setAddHashed a (.ref x) (k.hash w)) Q E s := by
  obtain ⟨o, ho, hex, hd⟩ := R.here
  have hsl := R.size
  have hroom := R.room
  unfold setAddHashed
  refine wpAny_holding ?_
  rw [show (100000 : Nat) = 99999 + 1 from rfl, setAddHashedIn_succ]
  refine wpAny_bind (wpAny_setState_of ho hd R.fits ?_)
  dsimp only
  refine wp_if_neg (by simp [byScan, Value.scannable]) ?_
  try refine wpAny_bind (wpAny_pure ?_)
  refine wpAny_bind (look_all R hx hu (fun hm => ?_) fun K hm hK hb => ?_)
  · dsimp only
    exact wpAny_pure (hQ false s.heap L es ep t (Heap.SameBut.refl a s.heap) R (fun _ => rfl) fun z => absurd hm z)
  · dsimp only
    refine wpAny_bind (wpAny_setState_of ho hd R.fits ?_)
    dsimp only
    obtain ⟨q1, q2, q3, q4, q5, q6, q7, q8, q9⟩ := R.tab.put hK hb
    generalize hpt : t.put (way t.mask (k.hash w) K) = pt at q1 q3 q4 q5 q6 q7 q8 q9 ⊢
    obtain ⟨t1, at1⟩ := pt
    dsimp only at q1 q3 q4 q5 q6 q7 q8 q9 ⊢
    subst q1
    have pm := put_perm L (SetTable.below t.place (way t.mask (k.hash w) K)) (x, k)
    have rows1 : (SetTable.insertAt es (SetTable.below t.place (way t.mask (k.hash w) K)) (k.hash w, Value.ref x)).toList = (L.take (SetTable.below t.place (way t.mask (k.hash w) K)) ++ (x, k) :: L.drop (SetTable.below t.place (way t.mask (k.hash w) K))).map fun p => (p.2.hash w, Value.ref p.1) := by
      rw [SetTable.toList_insertAt, R.rows, List.map_append, List.map_cons, List.map_take, List.map_drop]
    rw [← List.map_take, ← List.map_drop, ← List.map_cons (f := fun p : Addr × NestedKey => p.2.hash w) (a := (x, k)), ← List.map_append] at q3
    generalize SetTable.insertAt es (SetTable.below t.place (way t.mask (k.hash w) K)) (k.hash w, Value.ref x) = es1 at rows1 ⊢
    generalize L.take (SetTable.below t.place (way t.mask (k.hash w) K)) ++ (x, k) :: L.drop (SetTable.below t.place (way t.mask (k.hash w) K)) = L1 at pm rows1 q3
    have len1 : L1.length = L.length + 1 := pm.length_eq
    have nd1 : (L1.map (·.2)).Nodup := (pm.map (·.2)).nodup_iff.mpr (by rw [List.map_cons]; exact List.nodup_cons.mpr ⟨hm, R.nodup⟩)
    have size1 : es1.size = L.length + 1 := by rw [← Array.length_toList, rows1, List.length_map, len1]
    have rest : ∀ t2 : SetTable, TabOk t2 (L1.map fun p => p.2.hash w) → t2.mask = t.mask → t2.led = t.led → (t2.tooFull = true ↔ t1.tooFull = true) →
        wpAny (model P w) A (do
          storeSet a es1 t2
          if (!false && t2.tooFull) = true then do
            setRelay a (SetTable.grown (es.size + 1))
            pure true
          else pure true) Q E s := by
      intro t2 T2 m2 e2 tf
      refine wpAny_bind (wpAny_storeSet_of ho hd ?_ (by rw [size1, sizeLine_eq]; omega))
      have sb : Heap.SameBut a s.heap (s.heap.update a (Obj.putSet es1 t2)) := Heap.SameBut.update ..
      have ho1 := store_at (es' := es1) (t' := t2) ho hd
      generalize s.heap.update a (Obj.putSet es1 t2) = h1 at sb ho1 ⊢
      have keys1 : ∀ p ∈ L1, (nestedKind P w).is h1 p.2 p.1 := fun p hp => by
        rcases List.mem_cons.mp (pm.mem_iff.mp hp) with e | hp
        · rw [e]; exact key_same hx ho hd sb
        · exact key_same (R.keys p hp) ho hd sb
      have full : t1.tooFull = decide ((L.length + 1) * 5 ≥ t.mask * 3) := by
        unfold SetTable.tooFull
        rw [q9, List.length_map, q4]
      by_cases hf : t1.tooFull = true
      · refine wp_if_pos (by rw [tf.mpr hf]; rfl) ?_
        rw [full, decide_eq_true_eq] at hf
        rw [hsl]
        have two : (t.mask = 7 ∧ L.length = 4) ∨ (t.mask = 31 ∧ L.length = 18) := by
          rcases R.tab.mok with e | e | e <;> rw [e] at hf hroom
          · exact .inl ⟨e, by omega⟩
          · exact .inr ⟨e, by omega⟩
          · omega
        have go : ∀ M, SetTable.sizeAbove (SetTable.grown (L.length + 1)) - 1 = M → MaskOk M → SetTable.sizeAbove (SetTable.grown (L.length + 1)) ≤ 128 → (L.length + 1) * 5 < M * 3 →
            wpAny (model P w) A (do
              setRelay a (SetTable.grown (L.length + 1))
              pure true) Q E { s with heap := h1 } := fun M g1 g2 g3 g4 => by
          refine wpAny_bind (lay_anew (s := { s with heap := h1 }) ho1 ⟨hex.1, hex.2.1, hex.2.2⟩ rfl rows1 T2 (by rw [len1, m2]; rcases two with ⟨e, e3⟩ | ⟨e, e3⟩ <;> omega) nd1 keys1 (by rw [len1]; exact few) (by rw [e2]; exact R.led) g1 g2 g3 (by rw [len1]; exact g4) ?_)
          intro h2 L2 es2 ep2 t3 sb2 R2 pm2
          exact wpAny_pure (hQ true h2 L2 es2 ep2 t3 (sb.trans sb2) R2 (fun z => absurd z hm) fun _ => pm2.trans pm)
        rcases two with ⟨_, e3⟩ | ⟨_, e3⟩
        · exact go 31 (by rw [e3, size_20]) (.inr (.inl rfl)) (by rw [e3, size_20]; decide) (by omega)
        · exact go 127 (by rw [e3, size_76]) (.inr (.inr rfl)) (by rw [e3, size_76]; decide) (by omega)
      · refine wp_if_neg (by intro z; exact hf (tf.mp (by simpa using z))) ?_
        refine wpAny_pure (hQ true h1 L1 es1 (ep + 1) t2 sb ⟨⟨_, ho1, ⟨hex.1, hex.2.1, hex.2.2⟩, rfl⟩, rows1, T2, nd1, keys1, ?_, by rw [len1]; exact few, by rw [e2]; exact R.led⟩ (fun z => absurd z hm) fun _ => pm)
        rw [full, decide_eq_true_eq] at hf
        rw [len1, m2]
        omega
    have ends : ∀ b : Bool, wpAny (model P w) A (do
          storeSet a es1 (if b = true then t1 else { t1 with plain := false })
          if (!false && (if b = true then t1 else { t1 with plain := false }).tooFull) = true then do
            setRelay a (SetTable.grown (es.size + 1))
            pure true
          else pure true) Q E s := fun b => by
      cases b with
      | true => exact rest t1 q3 q4 q5 Iff.rfl
      | false => exact rest { t1 with plain := false } (TabOk.plainly q3 false) q4 q5 Iff.rfl
    by_cases hp : t1.plain = true
    · refine wp_if_pos hp ?_
      exact wpAny_bind (key_hashBy k _ 8 s hx.1 hx.2 _ _ _ (ends (byVal k)))
    · refine wp_if_neg hp ?_
      exact wpAny_bind (wpAny_pure (ends true))
end
end Sn
namespace Sn
open PySem PyProof.Rows L2
/-- what stands in the set when i of the things are in -/
def InSet (ks : List (Addr × NestedKey)) (i : Nat) (L : List (Addr × NestedKey)) : Prop := (∀ p ∈ L, p ∈ ks.take i) ∧ (∀ p ∈ ks.take i, p.2 ∈ L.map (·.2)) ∧ L.length ≤ i
theorem InSet.next {ks L L' : List (Addr × NestedKey)} {i : Nat} {x : Addr × NestedKey} (g : InSet ks i L) (h : ks[i]? = some x) (old : x.2 ∈ L.map (·.2) → L' = L) (new : x.2 ∉ L.map (·.2) → L'.Perm (x :: L)) : InSet ks (i + 1) L' := by
  have e : ks.take (i + 1) = ks.take i ++ [x] := by rw [List.take_succ, h]; rfl
  obtain ⟨g1, g2, g3⟩ := g
  by_cases c : x.2 ∈ L.map (·.2)
  · rw [old c]
    refine ⟨fun p hp => by rw [e]; exact List.mem_append_left _ (g1 p hp), fun p hp => ?_, by omega⟩
    rw [e] at hp
    rcases List.mem_append.mp hp with z | z
    · exact g2 p z
    · rw [List.mem_singleton.mp z]; exact c
  · have pm := new c
    refine ⟨fun p hp => ?_, fun p hp => ?_, by rw [pm.length_eq, List.length_cons]; omega⟩
    · rw [e]
      rcases List.mem_cons.mp (pm.mem_iff.mp hp) with z | z
      · rw [z]; exact List.mem_append_right _ (List.mem_singleton.mpr rfl)
      · exact List.mem_append_left _ (g1 p z)
    · rw [(pm.map (·.2)).mem_iff, List.map_cons]
      rw [e] at hp
      rcases List.mem_append.mp hp with z | z
      · exact List.mem_cons_of_mem _ (g2 p z)
      · rw [List.mem_singleton.mp z]; exact List.mem_cons_self
section
variable {P : Program} {w : World} {A : Around} {E : Value → Shared → Prop} {s : Shared}
theorem key_keep {h h' : Heap} {k : NestedKey} {b : Addr} (x : (nestedKind P w).is h k b) (hk : ∀ c o, h.get? c = some o → h'.get? c = some o) : (nestedKind P w).is h' k b :=
  ⟨NestedIs.at (fun c o _ _ e _ => hk c o e) k _ x.1, x.2⟩
theorem NSet.moved {h h' : Heap} {a : Addr} {L : List (Addr × NestedKey)} {es : Array (Int × Value)} {ep : Nat} {t : SetTable} (R : NSet P w h a L es ep t) (ha : ∀ o, h.get? a = some o → h'.get? a = some o) (ht : ∀ p ∈ L, (nestedKind P w).is h' p.2 p.1) : NSet P w h' a L es ep t := by
  obtain ⟨o, ho, r⟩ := R.here
  exact ⟨⟨o, ha o ho, r⟩, R.rows, R.tab, R.nodup, ht, R.room, R.few, R.led⟩
/-- a set with nothing in it -/
theorem NSet.void {h : Heap} {a : Addr} {b : Bool} (ho : h.get? a = some { cls := .type "set", dict := none, data := .set #[] 0 (.fresh 0 0 b) }) (hb : w.params.followText "set-order" = true ∨ b = true) : NSet P w h a [] #[] 0 (.fresh 0 0 b) where
  here := ⟨_, ho, ⟨rfl, rfl, rfl⟩, rfl⟩
  rows := rfl
  tab := ⟨List.Pairwise.nil, rfl, rfl, .inl rfl, fun x hx => (by cases hx), fun i h j hi => (by simp at hi)⟩
  nodup := List.nodup_nil
  keys := fun p hp => (by cases hp)
  room := by show 0 * 5 < 7 * 3; decide
  few := by show 0 < 64; decide
  led := hb
end
end Sn
namespace Sn
open PySem PyProof.Rows L2
section
variable {P : Program} {w : World} {A : Around} {E : Value → Shared → Prop} {s : Shared}
/-- one after another is put in -/
theorem fill {I : Addr} {fp wr : List Addr} {G : Array GenState → Array GenState → Prop} {n : Nat} {Pv : Nat → Value → Prop} {St : Nat → Shared → Prop} {R : Result → Shared → Prop}
    (W : WalksS P w A.in1 I fp wr G n Pv St) (S : Addr) (hS : S ∉ fp) (ks : List (Addr × NestedKey)) (hn : n = ks.length) (few : ks.length < 64) (val : ∀ i v, Pv i v → ∃ p, ks[i]? = some p ∧ v = .ref p.1)
    (h0 : Heap) (keys : ∀ p ∈ ks, (nestedKind P w).is h0 p.2 p.1) (none0 : h0.get? S = none) (nonew : ∀ b ∈ wr, h0.get? b = none) (hu : (nestedKind P w).room A.in1) :
    ∀ (k i : Nat) (s : Shared), n - i = k → i ≤ n → St i s → (∀ b o, h0.get? b = some o → s.heap.get? b = some o) → (∃ L es ep t, NSet P w s.heap S L es ep t ∧ InSet ks i L) →
      (∀ s' L es ep t, Moved (S :: wr) G s s' → NSet P w s'.heap S L es ep t → InSet ks n L → (∀ b o, h0.get? b = some o → s'.heap.get? b = some o) → R (.ok (.ret .none)) s') →
      codeAny (model P w) A (.builtin "set.update.loop" ⟨[.ref S, .ref I], []⟩) R s := by
  have hSw : S ∉ wr := fun h => hS (W.sub _ h)
  have up : ∀ b ∈ wr, b ∈ S :: wr := fun b hb => List.mem_cons_of_mem _ hb
  have stays : ∀ {s s' : Shared}, Moved wr G s s' → (∀ b o, h0.get? b = some o → s.heap.get? b = some o) → ∀ b o, h0.get? b = some o → s'.heap.get? b = some o := fun m q b o e =>
    m.heap b o (fun hb => by rw [nonew b hb] at e; cases e) (q b o e)
  have among : ∀ {i : Nat} {L : List (Addr × NestedKey)}, InSet ks i L → ∀ p ∈ L, p ∈ ks := fun g p hp => List.mem_of_mem_take (g.1 p hp)
  intro k
  induction k with
  | zero =>
    intro i s hk hi hst q ⟨L, es, ep, t, N, g⟩ hR
    have hin : i = n := by omega
    subst hin
    refine codeAny_builtin F.entry_set_update_loop ?_
    rw [Around.under_plainId F.plain_set_update_loop _]
    show wpAny _ A.in1 (pyNext (.ref I) >>= _) _ _ s
    refine wpAny_bind (W.done s _ _ hst fun s' m => ?_)
    show wpAny _ A.in1 (ret Value.none) _ _ s'
    exact wpAny_pure (hR s' L es ep t (m.mono up) (N.moved (fun o e => m.heap S o hSw e) fun p hp => key_keep (keys p (among g p hp)) (stays m q)) g (stays m q))
  | succ k ih =>
    intro i s hk hi hst q ⟨L, es, ep, t, N, g⟩ hR
    have lt : i < n := by omega
    refine codeAny_builtin F.entry_set_update_loop ?_
    rw [Around.under_plainId F.plain_set_update_loop _]
    show wpAny _ A.in1 (pyNext (.ref I) >>= _) _ _ s
    refine wpAny_bind (W.item i s _ _ lt hst fun v s' hv hst' m => ?_)
    obtain ⟨p, hp, rfl⟩ := val i v hv
    have q' := stays m q
    have N' : NSet P w s'.heap S L es ep t := N.moved (fun o e => m.heap S o hSw e) fun p hp => key_keep (keys p (among g p hp)) q'
    have hx : (nestedKind P w).is s'.heap p.2 p.1 := key_keep (keys p (List.mem_of_getElem? hp)) q'
    show wpAny _ A.in1 (holding [Value.ref p.1] (setAdd S (.ref p.1)) >>= _) _ _ s'
    refine wpAny_bind (wpAny_holding ?_)
    unfold setAdd
    refine wpAny_holding ?_
    refine wpAny_bind ((nestedKind P w).pyHash hu hx ?_)
    refine put_key (s := { s' with toks := s'.toks + (nestedKind P w).draws p.2 }) N' hx hu (by have := g.2.2; omega) fun b h' L' es' ep' t' sb N2 c1 c2 => ?_
    have g' : InSet ks (i + 1) L' := g.next hp c1 c2
    have q2 : ∀ b o, h0.get? b = some o → h'.get? b = some o := fun b o e => (sb.2 b (fun z => by rw [z, none0] at e; cases e)).trans (q' b o e)
    refine wpAny_pure ⟨plainId_quiet F.plain_set_update_loop _, ih (i + 1) _ (by omega) lt (W.frame _ s' _ _ hst' (Nat.le_add_right _ _) fun b hb o e => ?_) q2 ⟨L', es', ep', t', N2, g'⟩ fun s'' L2 es2 ep2 t2 m2 N3 g2 q3 => ?_⟩
    · rw [sb.2 b (fun h : b = S => hS (by rw [← h]; exact hb))]; exact e
    · refine hR s'' L2 es2 ep2 t2 (Moved.trans W.gtrans ((m.mono up).then_heap (Nat.le_add_right _ _) fun b o hb e => ?_) m2) N3 g2 q3
      rw [sb.2 b (fun h : b = S => hb (by rw [h]; exact List.mem_cons_self))]; exact e
end
end Sn
namespace Sn
open PySem PyProof.Rows L2
/-- the object that set() makes first -/
def fresh (w : World) : Obj := { cls := .type "set", dict := none, data := .set #[] 0 (.fresh 0 0 (!w.params.followText "set-order")) }
theorem beyond (h : Heap) {b : Addr} (hb : h.objs.size ≤ b) : h.get? b = none := by
  match q : h.get? b with
  | none => rfl
  | some u => exact absurd (Heap.lt_size q) (Nat.not_lt.mpr hb)
theorem item_key {items : Array Value} {ks : List (Addr × NestedKey)} (e : items.toList = ks.map fun p => Value.ref p.1) {i : Nat} {v : Value} (hv : items[i]? = some v) : ∃ p, ks[i]? = some p ∧ v = .ref p.1 := by
  rw [← Array.getElem?_toList, e, List.getElem?_map, Option.map_eq_some_iff] at hv
  obtain ⟨p, h1, h2⟩ := hv
  exact ⟨p, h1, h2.symm⟩
section
variable {P : Program} {w : World} {A : Around} {E : Value → Shared → Prop} {s : Shared}
/-- what stands when the list is gone through -/
def Full (P : Program) (w : World) (s : Shared) (ks : List (Addr × NestedKey)) (u : Shared) : Prop :=
  ∃ h' tk L es ep t, u = { s with heap := h', toks := tk } ∧ NSet P w h' s.heap.objs.size L es ep t ∧ InSet ks ks.length L ∧ (∀ b o, s.heap.get? b = some o → h'.get? b = some o)
/-- set(xs) of a list of nested keys -/
theorem set_of {l : Addr} {items : Array Value} (ks : List (Addr × NestedKey)) {Q : Value → Shared → Prop} (free : A.handled = none) (isL : s.heap.IsList l items) (e : items.toList = ks.map fun p => Value.ref p.1)
    (keys : ∀ p ∈ ks, (nestedKind P w).is s.heap p.2 p.1) (few : ks.length < 64) (hu : A.units + 11 < cLine) (h : ∀ u, Full P w s ks u → Q (.ref s.heap.objs.size) u) :
    wpAny (model P w) A (call (.type "set") [.ref l]) Q E s := by
  have m : items.size = ks.length := by rw [← Array.length_toList, e, List.length_map]
  obtain ⟨_, _, mro⟩ := F.called_set.mro
  have f1 := F.called_set.made
  have f2 := F.called_set.sub
  have f3 := F.called_set.notType
  have f4 := F.called_set.canCreate
  have f5 := F.typeCall_set_1 (.ref l)
  refine wpAny_call (codeAny_of_tree (wpAny_pure ⟨Code.quiet_builtin _ (by decide +kernel), codeAny_builtin F.entry_type_call ?made⟩))
  case made =>
    rw [Around.under_plain (weight_type_call_type "set" [.ref l] []) rfl]
    repeat any_goals (first | assumption | wp_step)
    refine codeAny_mono (code_set_led1 (.ref l) (E := E) (Q₁ := fun v u => v = .ref s.heap.objs.size ∧ u = { s with heap := s.heap.push (fresh w) }) ⟨rfl, rfl⟩) fun r u made => ?_
    cases r with
    | error _ => exact made
    | ok flow =>
      cases flow <;> first | exact made.elim | skip
      obtain ⟨rfl, rfl⟩ := made
      have here : (s.heap.push (fresh w)).get? s.heap.objs.size = some (fresh w) := Heap.get?_push_size _ rfl
      have ty : Shared.TypeIs { s with heap := s.heap.push (fresh w) } (.ref s.heap.objs.size) "set" := ⟨_, here, rfl⟩
      have g1 := F.called_set.init.lookup
      have g2 := F.called_set.init.bind (.ref s.heap.objs.size)
      repeat any_goals (first | assumption | wp_step)
      refine codeAny_mono (codeAny_call_builtin (R := wants (fun r u => r = .none ∧ Full P w s ks u) E) F.called_set.init.plain F.entry_set_init (check_set_init_1 ty ?init)) fun r u ends => ?_
      case init =>
        obtain ⟨⟨_, od, _, osl⟩, at0, cl0, n0, da0⟩ := isL
        simp only at cl0 da0
        subst cl0 da0
        have at1 : (s.heap.push (fresh w)).get? l = some { cls := .type "list", dict := od, data := .seq items n0, slots := osl } := Heap.get?_push_of_some _ at0
        have is1 : (s.heap.push (fresh w)).IsList l items := ⟨_, at1, rfl, n0, rfl⟩
        have g3 := F.sub_list_set
        have g4 := F.sub_list_frozenset
        have g5 : (Value.type "list" == Value.type "dict") = false := rfl
        have low : l < s.heap.objs.size := Heap.lt_size at0
        have top : (s.heap.push (fresh w)).objs.size = s.heap.objs.size + 1 := Heap.size_push ..
        have far : l ≠ (s.heap.push (fresh w)).objs.size := by rw [top]; exact Nat.ne_of_lt (Nat.lt_succ_of_lt low)
        have apart : s.heap.objs.size ∉ [(s.heap.push (fresh w)).objs.size, l] := by
          rw [top, List.mem_cons, List.mem_singleton, not_or]
          exact ⟨Nat.ne_of_lt (Nat.lt_succ_self _), Nat.ne_of_gt low⟩
        unfold Builtin.«set.__init__» Builtin.Frozenset.updateFrom noKeywords
        generalize pyf : pyIter = f
        wp_walk
        subst pyf
        refine wpAny_pyIter_list is1 (wpAny_bind (wpAny_runValue ?loop))
        case loop =>
          refine fill ((Walks.list (by simp [free]) _ l far items).toS) s.heap.objs.size apart ks m few (fun _ _ => item_key e) s.heap keys (beyond _ (Nat.le_refl _))
            (fun b hb => beyond _ (by rw [List.mem_singleton.mp hb, top]; omega)) (by show _ + 8 < cLine; simp; omega) items.size 0 _ rfl (Nat.zero_le _) ⟨⟨_, Heap.get?_push_size _ rfl, rfl, rfl⟩, is1.push _⟩
            (fun b o q => Heap.get?_push_of_some _ (Heap.get?_push_of_some _ q)) ⟨[], #[], 0, _, NSet.void (Heap.get?_push_of_some _ here) (by cases w.params.followText "set-order" <;> simp), (fun p z => by cases z), (fun p z => by simp at z), Nat.le_refl _⟩ ?_
          rintro ⟨h', g', d', tk, os'⟩ L es ep t mv N g kept
          obtain rfl : g' = s.gens := mv.gens
          obtain rfl : d' = s.drawn := mv.drawn
          obtain rfl : os' = s.os := mv.os
          rw [m] at g
          refine wpAny_pure ?_
          show wpAny _ _ (ret Value.none) _ _ _
          exact wpAny_pure ⟨rfl, h', tk, L, es, ep, t, rfl, N, g, kept⟩
      cases r with
      | error _ => exact ends
      | ok flow =>
        cases flow <;> first | exact ends.elim | skip
        obtain ⟨rfl, full⟩ := ends
        repeat any_goals (first | assumption | wp_step)
        exact h _ full
end
end Sn
namespace Sn
open PySem PyProof.Rows L2
section
variable {P : Program} {w : World} {A : Around} {E : Value → Shared → Prop} {s : Shared}
/-- set(xs) of a tuple of nested keys -/
theorem set_ofT {l : Addr} {items : Array Value} (ks : List (Addr × NestedKey)) {Q : Value → Shared → Prop} (free : A.handled = none) (isL : s.heap.IsTuple l items) (e : items.toList = ks.map fun p => Value.ref p.1)
    (keys : ∀ p ∈ ks, (nestedKind P w).is s.heap p.2 p.1) (few : ks.length < 64) (hu : A.units + 11 < cLine) (h : ∀ u, Full P w s ks u → Q (.ref s.heap.objs.size) u) :
    wpAny (model P w) A (call (.type "set") [.ref l]) Q E s := by
  have m : items.size = ks.length := by rw [← Array.length_toList, e, List.length_map]
  obtain ⟨_, _, mro⟩ := F.called_set.mro
  have f1 := F.called_set.made
  have f2 := F.called_set.sub
  have f3 := F.called_set.notType
  have f4 := F.called_set.canCreate
  have f5 := F.typeCall_set_1 (.ref l)
  refine wpAny_call (codeAny_of_tree (wpAny_pure ⟨Code.quiet_builtin _ (by decide +kernel), codeAny_builtin F.entry_type_call ?made⟩))
  case made =>
    rw [Around.under_plain (weight_type_call_type "set" [.ref l] []) rfl]
    repeat any_goals (first | assumption | wp_step)
    refine codeAny_mono (code_set_led1 (.ref l) (E := E) (Q₁ := fun v u => v = .ref s.heap.objs.size ∧ u = { s with heap := s.heap.push (fresh w) }) ⟨rfl, rfl⟩) fun r u made => ?_
    cases r with
    | error _ => exact made
    | ok flow =>
      cases flow <;> first | exact made.elim | skip
      obtain ⟨rfl, rfl⟩ := made
      have here : (s.heap.push (fresh w)).get? s.heap.objs.size = some (fresh w) := Heap.get?_push_size _ rfl
      have ty : Shared.TypeIs { s with heap := s.heap.push (fresh w) } (.ref s.heap.objs.size) "set" := ⟨_, here, rfl⟩
      have g1 := F.called_set.init.lookup
      have g2 := F.called_set.init.bind (.ref s.heap.objs.size)
      repeat any_goals (first | assumption | wp_step)
      refine codeAny_mono (codeAny_call_builtin (R := wants (fun r u => r = .none ∧ Full P w s ks u) E) F.called_set.init.plain F.entry_set_init (check_set_init_1 ty ?init)) fun r u ends => ?_
      case init =>
        obtain ⟨⟨_, od, _, osl⟩, at0, cl0, n0, da0⟩ := isL
        simp only at cl0 da0
        subst cl0 da0
        have at1 : (s.heap.push (fresh w)).get? l = some { cls := .type "tuple", dict := od, data := .seq items n0, slots := osl } := Heap.get?_push_of_some _ at0
        have is1 : (s.heap.push (fresh w)).IsTuple l items := ⟨_, at1, rfl, n0, rfl⟩
        have g3 := F.sub_tuple_set
        have g4 := F.sub_tuple_frozenset
        have g5 : (Value.type "tuple" == Value.type "dict") = false := rfl
        have low : l < s.heap.objs.size := Heap.lt_size at0
        have top : (s.heap.push (fresh w)).objs.size = s.heap.objs.size + 1 := Heap.size_push ..
        have far : l ≠ (s.heap.push (fresh w)).objs.size := by rw [top]; exact Nat.ne_of_lt (Nat.lt_succ_of_lt low)
        have apart : s.heap.objs.size ∉ [(s.heap.push (fresh w)).objs.size, l] := by
          rw [top, List.mem_cons, List.mem_singleton, not_or]
          exact ⟨Nat.ne_of_lt (Nat.lt_succ_self _), Nat.ne_of_gt low⟩
        unfold Builtin.«set.__init__» Builtin.Frozenset.updateFrom noKeywords
        generalize pyf : pyIter = f
        wp_walk
        subst pyf
        refine wpAny_pyIter_tuple is1 (wpAny_bind (wpAny_runValue ?loop))
        case loop =>
          refine fill ((Walks.tuple (by simp [free]) _ l far items).toS) s.heap.objs.size apart ks m few (fun _ _ => item_key e) s.heap keys (beyond _ (Nat.le_refl _))
            (fun b hb => beyond _ (by rw [List.mem_singleton.mp hb, top]; omega)) (by show _ + 8 < cLine; simp; omega) items.size 0 _ rfl (Nat.zero_le _) ⟨⟨_, Heap.get?_push_size _ rfl, rfl, rfl⟩, is1.at fun o e => Heap.get?_push_of_some _ e⟩
            (fun b o q => Heap.get?_push_of_some _ (Heap.get?_push_of_some _ q)) ⟨[], #[], 0, _, NSet.void (Heap.get?_push_of_some _ here) (by cases w.params.followText "set-order" <;> simp), (fun p z => by cases z), (fun p z => by simp at z), Nat.le_refl _⟩ ?_
          rintro ⟨h', g', d', tk, os'⟩ L es ep t mv N g kept
          obtain rfl : g' = s.gens := mv.gens
          obtain rfl : d' = s.drawn := mv.drawn
          obtain rfl : os' = s.os := mv.os
          rw [m] at g
          refine wpAny_pure ?_
          show wpAny _ _ (ret Value.none) _ _ _
          exact wpAny_pure ⟨rfl, h', tk, L, es, ep, t, rfl, N, g, kept⟩
      cases r with
      | error _ => exact ends
      | ok flow =>
        cases flow <;> first | exact ends.elim | skip
        obtain ⟨rfl, full⟩ := ends
        repeat any_goals (first | assumption | wp_step)
        exact h _ full
end
end Sn
namespace Eg
open PySem L2 PySem.W PySem.SeqAt PySem.Spec PyProof.Rows
open Sn (NSet)
/-! ## set(xs), as an object -/
/-- the set at a, without the tuples themselves -/
structure NObj (w : World) (a : Addr) (L : List (Addr × NestedKey)) (h : Heap) : Prop where
  ex : ∃ (es : Array (Int × Value)) (ep : Nat) (t : SetTable), (∃ o, h.get? a = some o ∧ o.ExactSet ∧ o.data = .set es ep t) ∧ (es.toList = L.map fun p => (p.2.hash w, Value.ref p.1)) ∧ TabOk t (L.map fun p => p.2.hash w) ∧ L.length * 5 < t.mask * 3 ∧ (w.params.followText "set-order" = true ∨ t.led = true)
  nodup : (L.map (·.2)).Nodup
  few : L.length < 64
def NO (w : World) (a : Addr) (L : List (Addr × NestedKey)) : HO := .ext (NObj w a L)
theorem no_new {P : Program} {w : World} {H : Hp} {h : Heap} {a : Addr} {L : List (Addr × NestedKey)} {es : Array (Int × Value)} {ep : Nat} {t : SetTable} (R : NSet P w h a L es ep t) : ObjOk P w H h a (NO w a L) := by
  obtain ⟨o, ho, r⟩ := R.here
  refine ⟨⟨⟨es, ep, t, R.here, R.rows, R.tab, R.room, R.led⟩, R.nodup, R.few⟩, ⟨o, ho⟩, fun h1 h2 p k => ?_⟩
  obtain ⟨⟨es, ep, t, ⟨o, ho, r⟩, q⟩, n1, n2⟩ := p
  exact ⟨⟨es, ep, t, ⟨o, k o ho, r⟩, q⟩, n1, n2⟩
theorem no_full {P : Program} {w : World} {h : Heap} {a : Addr} {L : List (Addr × NestedKey)} (R : NObj w a L h) (keys : ∀ p ∈ L, (nestedKind P w).is h p.2 p.1) : ∃ es ep t, NSet P w h a L es ep t := by
  obtain ⟨⟨es, ep, t, h1, h2, h3, h4, h5⟩, n1, n2⟩ := R
  exact ⟨es, ep, t, h1, h2, h3, n1, keys, h4, n2, h5⟩
/-- a key's address, and its datum -/
inductive KA (K : Kw) (F : Hp) : List (Addr × NestedKey) → List PyData → Prop
  | nil : KA K F [] []
  | cons {a : Addr} {d : PyData} {ks : List (Addr × NestedKey)} {ds : List PyData} : keyT d = true → DV K F (.ref a) d → KA K F ks ds → KA K F ((a, nk d) :: ks) (d :: ds)
theorem KA.of {K : Kw} {F : Hp} : ∀ {vs : List V} {ds : List PyData}, DVs K F vs ds → (∀ d ∈ ds, keyT d = true) → ∃ ks, KA K F ks ds ∧ vs = ks.map fun p => V.ref p.1
  | _, _, .nil, _ => ⟨[], .nil, rfl⟩
  | _, _, .cons (d := d) h t, k => by
    obtain ⟨a, rfl⟩ := dv_tup h (k d List.mem_cons_self)
    obtain ⟨ks, r, e⟩ := KA.of t fun d hd => k d (List.mem_cons_of_mem _ hd)
    exact ⟨(a, nk d) :: ks, .cons (k d List.mem_cons_self) h r, by rw [List.map_cons, e]⟩
theorem KA.len {K : Kw} {F : Hp} : ∀ {ks : List (Addr × NestedKey)} {ds : List PyData}, KA K F ks ds → ks.length = ds.length
  | _, _, .nil => rfl
  | _, _, .cons _ _ t => by rw [List.length_cons, List.length_cons, KA.len t]
theorem KA.mem {K : Kw} {F : Hp} : ∀ {ks : List (Addr × NestedKey)} {ds : List PyData}, KA K F ks ds → ∀ p ∈ ks, ∃ d ∈ ds, keyT d = true ∧ p.2 = nk d ∧ DV K F (.ref p.1) d
  | _, _, .nil, p, hp => nomatch hp
  | _, _, .cons (d := d) h1 h2 t, p, hp => by
    rcases List.mem_cons.mp hp with e | hp
    · rw [e]; exact ⟨d, List.mem_cons_self, h1, rfl, h2⟩
    · obtain ⟨d, hd, r⟩ := KA.mem t p hp
      exact ⟨d, List.mem_cons_of_mem _ hd, r⟩
theorem KA.mem' {K : Kw} {F : Hp} : ∀ {ks : List (Addr × NestedKey)} {ds : List PyData}, KA K F ks ds → ∀ d ∈ ds, ∃ p ∈ ks, p.2 = nk d
  | _, _, .nil, d, hd => nomatch hd
  | _, _, .cons (a := a) (d := e) h1 h2 t, d, hd => by
    rcases List.mem_cons.mp hd with z | hd
    · rw [z]; exact ⟨(a, nk e), List.mem_cons_self, rfl⟩
    · obtain ⟨p, hp, r⟩ := KA.mem' t d hd
      exact ⟨p, List.mem_cons_of_mem _ hp, r⟩
/-- each once, the first of like ones -/
def once : List PyData → List PyData
  | [] => []
  | d :: ds => d :: (once ds).filter fun e => !decide (nk e = nk d)
theorem once_mem : ∀ {ds : List PyData} {d : PyData}, d ∈ once ds → d ∈ ds
  | [], _, h => h
  | x :: ds, d, h => by
    rcases List.mem_cons.mp h with e | h
    · exact List.mem_cons.mpr (.inl e)
    · exact List.mem_cons_of_mem _ (once_mem (List.mem_filter.mp h).1)
theorem once_all : ∀ {ds : List PyData} {d : PyData}, d ∈ ds → ∃ e ∈ once ds, nk e = nk d
  | x :: ds, d, h => by
    by_cases q : nk x = nk d
    · exact ⟨x, List.mem_cons_self, q⟩
    · rcases List.mem_cons.mp h with e | h
      · exact absurd (by rw [e]) q
      · obtain ⟨e, he, k⟩ := once_all h
        exact ⟨e, List.mem_cons_of_mem _ (List.mem_filter.mpr ⟨he, by simpa using fun z => q (z.symm.trans k)⟩), k⟩
theorem once_nodup : ∀ ds : List PyData, ((once ds).map nk).Nodup
  | [] => List.nodup_nil
  | d :: ds => by
    rw [once, List.map_cons, List.nodup_cons]
    refine ⟨fun h => ?_, ?_⟩
    · obtain ⟨e, he, q⟩ := List.mem_map.mp h
      simpa [q] using (List.mem_filter.mp he).2
    · exact List.Nodup.sublist (List.Sublist.map nk List.filter_sublist) (once_nodup ds)
/-! ### sorted, whatever the order -/
theorem vals_refs' : ∀ {ks : List (Addr × NestedKey)} {us : List Value}, Vals (ks.map fun p => V.ref p.1) us → us = ks.map fun p => Value.ref p.1
  | [], _, .nil => rfl
  | p :: ks, _, .cons r t => by
    cases r
    rw [vals_refs' t]
    rfl
theorem le_both {d e : PyData} (h1 : dataLe false id d e = true) (h2 : dataLe false id e d = true) : keyToks d = keyToks e := by
  have a : (!dataLt e d) = true := h1
  have b : (!dataLt d e) = true := h2
  simp only [Bool.not_eq_true'] at a b
  exact (PyProof.Rows.listOrd PyProof.Rows.itemOrd).total _ _ b a
mutual
/-- alike keys with the same signs are the same -/
theorem toks_inj : ∀ (x y : PyData) (l m : List (Int ⊕ List Nat)), alike x y = true → keyB x = true → keyB y = true → keyToks x ++ l = keyToks y ++ m → x = y ∧ l = m
  | .none, y, l, m, h, hx, hy, e => by cases y <;> simp [alike] at h; exact ⟨rfl, by simpa [keyToks] using e⟩
  | .int i, y, l, m, h, hx, hy, e => by
    cases y <;> simp [alike] at h
    simp only [keyToks, List.cons_append, List.nil_append, List.cons.injEq, Sum.inl.injEq] at e
    exact ⟨by rw [e.1], e.2⟩
  | .str i, y, l, m, h, hx, hy, e => by
    cases y <;> simp [alike] at h
    simp only [keyToks, List.cons_append, List.nil_append, List.cons.injEq, Sum.inr.injEq] at e
    exact ⟨by rw [str_of_cps e.1], e.2⟩
  | .tuple xs, y, l, m, h, hx, hy, e => by
    cases y <;> simp [alike] at h
    rw [keyB] at hx hy
    simp only [keyToks] at e
    obtain ⟨a, b⟩ := toksAll_inj xs _ l m h hx hy e
    exact ⟨by rw [a], b⟩
  | .bool _, _, _, _, _, hx, _, _ => by simp [keyB] at hx
  | .list _, _, _, _, _, hx, _, _ => by simp [keyB] at hx
  | .dict _, _, _, _, _, hx, _, _ => by simp [keyB] at hx
theorem toksAll_inj : ∀ (xs ys : List PyData) (l m : List (Int ⊕ List Nat)), alikeAll xs ys = true → keyBs xs = true → keyBs ys = true → keyToksAll xs ++ l = keyToksAll ys ++ m → xs = ys ∧ l = m
  | [], ys, l, m, h, hx, hy, e => by
    cases ys with
    | nil => exact ⟨rfl, by simpa [keyToksAll] using e⟩
    | cons y ys => simp [keyToksAll] at e
  | x :: xs, ys, l, m, h, hx, hy, e => by
    cases ys with
    | nil => simp [keyToksAll] at e
    | cons y ys =>
      rw [keyBs, Bool.and_eq_true] at hx hy
      obtain ⟨h1, h2⟩ := alike_all_cons h
      rw [toks_all_cons, toks_all_cons, List.cons_append, List.cons_append, List.append_assoc, List.append_assoc] at e
      obtain ⟨a, b⟩ := toks_inj x y _ _ h1 hx.1 hy.1 (List.cons.inj e).2
      obtain ⟨c, d⟩ := toksAll_inj xs ys l m h2 hx.2 hy.2 b
      exact ⟨by rw [a, c], d⟩
end
open List in
/-- sorted alike, in whatever order they come -/
theorem sort_perm {ds es : List PyData} (p : ds ~ es) (al : ∀ d ∈ ds, ∀ e ∈ ds, alike d e = true) (kb : ∀ d ∈ ds, keyB d = true) : sortD ds = sortD es := by
  have tot : TotalLe (dataLe false id) := show TotalLe (sortLe (PyProof.Rows.listOrd PyProof.Rows.itemOrd) false fun b : PyData => keyToks (id b)) from sortLe_total _ _ _
  refine List.Perm.eq_of_pairwise (le := fun a b => dataLe false id a b = true) (fun a b ha hb h1 h2 => ?_) (sort_pairwise tot _) (sort_pairwise tot _) (((List.mergeSort_perm _ _).trans p).trans (List.mergeSort_perm _ _).symm)
  have ha' : a ∈ ds := (List.mem_mergeSort).mp ha
  have hb' : b ∈ ds := p.symm.mem_iff.mp ((List.mem_mergeSort).mp hb)
  have e := le_both h1 h2
  exact (toks_inj a b [] [] (al a ha' b hb') (kb a ha') (kb b hb') (by rw [e])).1
open List in
theorem perm_map {α β : Type} {f : α → β} : ∀ {vs us : List β}, vs ~ us → ∀ {L : List α}, us = L.map f → ∃ L', L' ~ L ∧ vs = L'.map f := by
  intro vs us p
  induction p with
  | nil => intro L e; exact ⟨L, .refl _, e⟩
  | @cons x l1 l2 p ih =>
    intro L e
    cases L with
    | nil => cases e
    | cons y L =>
      rw [List.map_cons] at e
      obtain ⟨e1, e2⟩ := List.cons.inj e
      obtain ⟨L', q, r⟩ := ih e2
      exact ⟨y :: L', q.cons y, by rw [List.map_cons, ← e1, r]⟩
  | swap x y l =>
    intro L e
    match L, e with
    | a :: b :: L, e =>
      rw [List.map_cons, List.map_cons] at e
      obtain ⟨e1, e2⟩ := List.cons.inj e
      obtain ⟨e2, e3⟩ := List.cons.inj e2
      exact ⟨b :: a :: L, .swap _ _ _, by rw [List.map_cons, List.map_cons, ← e1, ← e2, e3]⟩
  | trans _ _ i1 i2 =>
    intro L e
    obtain ⟨L2, q2, r2⟩ := i2 e
    obtain ⟨L1, q1, r1⟩ := i1 r2
    exact ⟨L1, q1.trans q2, r1⟩
theorem KA.each {K : Kw} {F : Hp} : ∀ {ks : List (Addr × NestedKey)} {ds : List PyData}, KA K F ks ds → EachIs (IsD' K F) (ks.map fun p => Value.ref p.1) ds ∧ ks.map (·.2) = ds.map nk
  | _, _, .nil => ⟨.nil, rfl⟩
  | _, _, .cons (a := a) _ h t => ⟨.cons ⟨.ref a, rfl, h⟩ (KA.each t).1, by rw [List.map_cons, List.map_cons, (KA.each t).2]⟩
theorem KA.sub {K : Kw} {F : Hp} {ds : List PyData} : ∀ {L : List (Addr × NestedKey)}, (∀ p ∈ L, ∃ d ∈ ds, keyT d = true ∧ p.2 = nk d ∧ DV K F (.ref p.1) d) → ∃ es, KA K F L es ∧ ∀ e ∈ es, e ∈ ds
  | [], _ => ⟨[], .nil, fun _ h => nomatch h⟩
  | (a, n) :: L, h => by
    obtain ⟨d, hd, k, e, r⟩ := h _ List.mem_cons_self
    obtain ⟨es, q, m⟩ := KA.sub fun p hp => h p (List.mem_cons_of_mem _ hp)
    have e : n = nk d := e
    subst e
    exact ⟨d :: es, .cons k r q, fun x hx => by
      rcases List.mem_cons.mp hx with z | hx
      · rw [z]; exact hd
      · exact m x hx⟩
theorem nodup_of_map {α β : Type} {f : α → β} {l : List α} (h : (l.map f).Nodup) : l.Nodup := by
  rw [List.nodup_iff_pairwise_ne, List.pairwise_map] at h
  exact List.nodup_iff_pairwise_ne.mpr (h.imp fun q z => q (by rw [z]))
open List in
/-- the members of a set, in any order -/
theorem set_members {K : Kw} {F : Hp} {ds : List PyData} {L : List (Addr × NestedKey)} {vs : List Value} (kt : ∀ d ∈ ds, keyT d = true) (h1 : ∀ p ∈ L, ∃ d ∈ ds, keyT d = true ∧ p.2 = nk d ∧ DV K F (.ref p.1) d) (h2 : ∀ d ∈ ds, ∃ p ∈ L, p.2 = nk d) (nd : (L.map (·.2)).Nodup)
    (pm : vs ~ L.map fun p => Value.ref p.1) : ∃ es, EachIs (IsD' K F) vs es ∧ es ~ once ds ∧ ∀ e ∈ es, e ∈ ds := by
  obtain ⟨L', q, rfl⟩ := perm_map pm rfl
  obtain ⟨es, ka, mem⟩ := KA.sub (L := L') fun p hp => h1 p (q.mem_iff.mp hp)
  obtain ⟨e1, e2⟩ := ka.each
  have kb : ∀ d ∈ ds, keyB d = true := fun d hd => (keyT_at (kt d hd)).1
  refine ⟨es, e1, (List.perm_ext_iff_of_nodup (nodup_of_map (f := nk) ?_) (nodup_of_map (once_nodup ds))).mpr fun d => ⟨fun hd => ?_, fun hd => ?_⟩, mem⟩
  · rw [← e2]
    exact ((q.map (·.2)).nodup_iff).mpr nd
  · obtain ⟨e, he, z⟩ := once_all (mem d hd)
    rw [nk_inj e d (kb e (once_mem he)) (kb d (mem d hd)) z] at he
    exact he
  · have hd' := once_mem hd
    obtain ⟨p, hp, z⟩ := h2 d hd'
    have : nk d ∈ es.map nk := by
      rw [← e2]
      exact List.mem_map.mpr ⟨p, q.mem_iff.mpr hp, z⟩
    obtain ⟨e, he, z⟩ := List.mem_map.mp this
    rw [nk_inj e d (kb e (mem e he)) (kb d hd') z] at he
    exact he
def gKeys : List PyData → Option (List PyData)
  | [.list ds] => if ds.all keyT = true ∧ ds.length < 64 then some ds else none
  | [.tuple ds] => if ds.all keyT = true ∧ ds.length < 64 then some ds else none
  | _ => none
theorem sortOk_sub {ds es : List PyData} (h : sortOk ds = true) (m : ∀ e ∈ es, e ∈ ds) (l : es.length ≤ sizeLine) : sortOk es = true := by
  unfold sortOk alikeB at h ⊢
  simp only [Bool.and_eq_true, Bool.or_eq_true, List.all_eq_true, decide_eq_true_eq] at h ⊢
  obtain ⟨⟨⟨h1, h2⟩, h3⟩, h4⟩ := h
  exact ⟨⟨⟨fun d hd e he => h1 d (m d hd) e (m e he), h2.imp (fun z d hd => z d (m d hd)) fun z d hd => z d (m d hd)⟩, fun d hd => h3 d (m d hd)⟩, l⟩
/-- what set(xs) is -/
def rSet (K : Kw) : RRel (List PyData) := fun F' H' _ _ _ _ v ds => ∃ a L, v = .ref a ∧ H' a = some (NO K.w a L) ∧ (∀ d ∈ ds, keyT d = true) ∧ (∀ p ∈ L, ∃ d ∈ ds, keyT d = true ∧ p.2 = nk d ∧ DV K F' (.ref p.1) d) ∧ (∀ d ∈ ds, ∃ p ∈ L, p.2 = nk d)
theorem stb_Set {K : Kw} : Stb (rSet K) := fun _ _ _ _ _ _ _ _ _ _ _ _ _ r => r
def tSet (C : Ct) (m : M (List PyData)) : TE := fun σ H Q => ∃ F ρ, SR C.K F H σ ρ ∧ PostE C (rSet C.K) σ ρ F H Q (m ρ)
section
variable {X : Cx} {C : Ct} {e : Expr} {pos p pos2 p2 : Pos}
theorem k_set {x : Str} {ms : M (List Arg)} (hc : X.calm = true) (hu : X.A.units + 64 < cLine) (hg : Gl X x) (hm : X.mg x = none) (hv : bootBuiltins x = some (.type "set")) (ha : PA X [e] (tL C ms)) (hn : x ≠ "__name__" := by decide) (hdb : (x == ("__debug__" : Str)) = false := by decide)
    (he : starEach [e] X.env = (false, eval e X.env) :: starEach [] X.env := by rfl) (hpl : (backTo pos (starEach [] X.env)).any (·.1) = false := by rfl) (hK : X.KW = C.K := by rfl) : PE X (.Call (.Name x p) [e] [] pos) (tSet C (mL gKeys ms)) := by
  refine ⟨fun pins s σ H Q I ⟨F, ρ, sr, pp⟩ => ?_⟩
  refine wpAny_Call_Name_kw (ld_blt I hg hm hv ?_ hn hdb)
  refine PyProof.Rows.callWith_type1 (thn (ha.run pos pins s σ H (fun xs H2 => ∃ ds d ρ2 F2, SR C.K F2 H2 σ ρ2 ∧ Vws C.K F2 H2 xs ds ∧ gKeys ds = some d ∧ PostE C (rSet C.K) σ ρ2 F2 H2 Q (.ok d ρ2)) I (many sr stb_Set pp fun xs ds d ρ2 F2 H2 s2 vw e q => ⟨ds, d, ρ2, F2, s2, vw, e, q⟩))
    fun us s1 ⟨vs, H1, I1, r1, ds, d, ρ2, F2, s2, vw, eg, q⟩ => ?_) he hpl
  have hw : X.w = C.K.w := congrArg Kw.w hK
  cases vw with
  | nil => cases eg
  | cons h t =>
    cases t with
    | cons _ _ => rename_i d _ _ _ _ _ _; cases d <;> cases eg
    | nil =>
      rename_i x d0
      obtain ⟨u, rfl, ru⟩ := vals1 r1
      have core : ∀ (es : List PyData) (ws : List V) (ks : List (Addr × NestedKey)) (its : List Value), es.all keyT = true → es.length < 64 → d = es → KA C.K F2 ks es → its = (ks.map fun p => Value.ref p.1) →
          (∀ p ∈ ks, (nestedKind X.prog X.w).is s1.heap p.2 p.1) ∧ ks.length < 64 ∧ ∀ u, Sn.Full X.prog X.w s1 ks u → EP X pins σ Q (.ref s1.heap.objs.size) u := fun es ws ks its kt few ed ka _ => by
        subst ed
        have kt := List.all_eq_true.mp kt
        refine ⟨fun p hp => ?_, by rw [ka.len]; exact few, fun u ⟨h', tk, L, es', ep, t, eu, N, g, keep⟩ => ?_⟩
        · obtain ⟨d, hd, k, e2, dv⟩ := ka.mem p hp
          rw [e2]
          obtain ⟨kb, kd, _⟩ := keyT_at k
          exact key_at I1 (hK ▸ DV.mono s2.sub dv) kb kd
        · subst eu
          have hn : H1 s1.heap.objs.size = none := I1.hok.fresh (Nat.le_refl _)
          refine ⟨.ref s1.heap.objs.size, _, I1.laid (t' := tk) (o := NO X.w s1.heap.objs.size L) keep (Nat.le_refl _) (no_new N), rfl, ?_⟩
          rw [hw]
          refine q F2 _ _ (Grow.fresh hn) (s2.fresh hn) ⟨_, L, rfl, upd_same, kt, fun p hp => ?_, fun d hd => ?_⟩
          · exact ka.mem p (List.mem_of_mem_take (g.1 p hp))
          · obtain ⟨p, hp, e2⟩ := ka.mem' d hd
            obtain ⟨p', hp', e3⟩ := List.mem_map.mp (g.2.1 p (by rw [List.take_length]; exact hp))
            exact ⟨p', hp', e3.trans e2⟩
      cases d0 with
      | list es =>
        simp only [gKeys] at eg
        split at eg <;> try cases eg
        rename_i cond
        obtain ⟨b, ws, rfl, h1, h2⟩ := h
        cases ru
        obtain ⟨its, rv, pl, _⟩ := I1.list (SqL.of h1)
        obtain ⟨ks, ka, ew⟩ := KA.of h2 (List.all_eq_true.mp cond.1)
        subst ew
        obtain ⟨c1, c2, c3⟩ := core d [] ks (ks.map fun p => Value.ref p.1) cond.1 cond.2 rfl ka rfl
        have ei : its = ks.map fun p => Value.ref p.1 := vals_refs' rv
        exact Sn.set_of ks (I1.ok.hd hc) pl.isList (by simpa using ei) c1 c2 (by omega) c3
      | tuple es =>
        simp only [gKeys] at eg
        split at eg <;> try cases eg
        rename_i cond
        have h' : DV C.K F2 x (.tuple d) := h
        cases h' with
        | tup h1 h2 =>
          cases ru
          rw [← hK] at s2
          obtain ⟨its, rv, pl, _⟩ := I1.tuple (s2.sub.sqT (hK ▸ h1))
          obtain ⟨ks, ka, ew⟩ := KA.of h2 (List.all_eq_true.mp cond.1)
          subst ew
          obtain ⟨c1, c2, c3⟩ := core d [] ks (ks.map fun p => Value.ref p.1) cond.1 cond.2 rfl ka rfl
          have ei : its = ks.map fun p => Value.ref p.1 := vals_refs' rv
          exact Sn.set_ofT ks (I1.ok.hd hc) (ei ▸ pl) (by simp) c1 c2 (by omega) c3
      | _ => cases eg
end
end Eg
namespace Eg
open PySem L2 PySem.W PySem.SeqAt PySem.Spec PyProof.Rows
theorem u9 {n : Nat} (h : n + 64 < cLine) : n + 9 < cLine := by omega
theorem b_set : bootBuiltins "set" = some (.type "set") := by decide +kernel
/-! ## sorted(set(xs)), len(set(xs)) -/
def gOnce (ds : List PyData) : Option OD := if sortOk ds = true then some (.ol (sortD (once ds))) else none
def mSSet (ms : M (List Arg)) : M OD := (mL gKeys ms).bind fun ds => M.lift (gOnce ds)
def mLSet (ms : M (List Arg)) : M OD := (mL gKeys ms).bind fun ds => M.ret (.sh (.int (once ds).length))
section
variable {X : Cx} {C : Ct} {e : Expr} {pos p pos2 p2 : Pos}
/-- the members, gathered -/
theorem coll_set {pins : List (Addr × Obj)} {σ : L2.St} {F H : Hp} {s : Shared} {a : Addr} {L : List (Addr × NestedKey)} {ds : List PyData} (hc : X.calm = true) (I : Inv X pins σ H s) (sub : Same F H) (hH : H a = some (NO X.w a L)) (kt : ∀ d ∈ ds, keyT d = true)
    (h1 : ∀ p ∈ L, ∃ d ∈ ds, keyT d = true ∧ p.2 = nk d ∧ DV X.KW F (.ref p.1) d) (h2 : ∀ d ∈ ds, ∃ p ∈ L, p.2 = nk d) (ok : sortOk ds = true) (E : Value → Shared → Prop) (R : List Value → Shared → Prop)
    (k : ∀ vs s1, (Kept s s1 ∧ ∃ es, EachIs (IsD' X.KW F) vs es ∧ sortOk es = true ∧ sortD es = sortD (once ds)) → R vs s1) : wpAny (model X.prog X.w) X.A.in1 (collect (.ref a)) R E s := by
  have ob : NObj X.w a L s.heap := (I.hok a _ hH).1
  obtain ⟨es, ep, t, N⟩ := no_full (P := X.prog) ob fun p hp => by
    obtain ⟨d, _, kd, e, dv⟩ := h1 p hp
    obtain ⟨kb, kd, _⟩ := keyT_at kd
    rw [e]
    exact key_at I (DV.mono sub dv) kb kd
  obtain ⟨o, ho, hex, hd⟩ := N.here
  have few := N.few
  have size := N.size
  refine collect_set (A := X.A.in1) (I.ok.hd hc) ⟨o, ho, hex.1, hd⟩ N.fits (by unfold scanBound; omega) N.tab.ris N.led fun s1 vs k1 hz g1 o1 pm => k vs s1 ⟨⟨k1, g1, o1, hz⟩, ?_⟩
  rw [show es.toList.map (·.2) = L.map fun p => Value.ref p.1 by rw [N.rows, List.map_map]; rfl] at pm
  obtain ⟨ws, e1, e2, e3⟩ := set_members kt h1 h2 N.nodup pm
  have sz : ws.length ≤ sizeLine := by
    rw [← e1.length, pm.length_eq, List.length_map, sizeLine_eq]
    omega
  obtain ⟨al, _⟩ := sortOk_at ok
  exact ⟨ws, e1, sortOk_sub ok e3 sz, sort_perm e2 (fun d hd e he => al d (e3 d hd) e (e3 e he)) fun d hd => (keyT_at (kt d (e3 d hd))).1⟩
theorem o_sset {ms : M (List Arg)} (hc : X.calm = true) (hu : X.A.units + 64 < cLine) (hg : Gl X "sorted") (hm : X.mg "sorted" = none) (hg2 : Gl X "set") (hm2 : X.mg "set" = none) (ha : PA X [e] (tL C ms))
    (he : starEach [e] X.env = (false, eval e X.env) :: starEach [] X.env := by rfl) (he2 : starEach [.Call (.Name "set" p2) [e] [] pos2] X.env = (false, eval (.Call (.Name "set" p2) [e] [] pos2) X.env) :: starEach [] X.env := by rfl) (hpl : (backTo pos (starEach [] X.env)).any (·.1) = false := by rfl) (hK : X.KW = C.K := by rfl) :
    PE X (.Call (.Name "sorted" p) [.Call (.Name "set" p2) [e] [] pos2] [] pos) (tO C (mSSet ms)) := by
  have inner := k_set (p := p2) (pos := pos2) hc hu hg2 hm2 b_set ha (by decide) (by decide) he rfl hK
  refine ⟨fun pins s σ H Q I ⟨F, ρ, sr, pp⟩ => ?_⟩
  refine wpAny_Call_Name_kw (ld_blt I hg hm b_sorted ?_ (by decide) (by decide))
  have go : tSet C (mL gKeys ms) σ H fun v H1 => ∃ ds o F1 ρ1, SR C.K F1 H1 σ ρ1 ∧ rSet C.K F1 H1 σ ρ1 ρ H v ds ∧ gOnce ds = some o ∧ PostE C (rO C.K) σ ρ1 F1 H1 Q (.ok o ρ1) :=
    ⟨F, ρ, sr, pp.part fun ds ρ1 F1 H1 v e1 q1 g1 s1 r1 => by
      have q1 := q1.on stb_O g1
      obtain ⟨o, eo, q⟩ := lift_some q1
      exact ⟨ds, o, F1, ρ1, s1, r1, eo, q⟩⟩
  refine PyProof.Rows.callWith_builtin1 (thn ((pa_cons inner pa_nil he2).run pos pins s σ H (fun xs H2 => ∃ v, xs = [v] ∧ ∃ ds o F1 ρ1, SR C.K F1 H2 σ ρ1 ∧ rSet C.K F1 H2 σ ρ1 ρ H v ds ∧ gOnce ds = some o ∧ PostE C (rO C.K) σ ρ1 F1 H2 Q (.ok o ρ1)) I ?_) fun us s1 ⟨xs, H1, I1, r1, v, ex, ds, o, F1, ρ1, s1', rs, eo, q⟩ => ?_) he2 hpl
  · obtain ⟨F0, ρ0, sr0, p0⟩ := go
    exact ⟨F0, ρ0, sr0, by
      cases em : mL gKeys ms ρ0 with
      | ok a ρ' => rw [em] at p0; exact fun F' H' v g s r => ⟨v, rfl, p0 F' H' v g s r⟩
      | ex x ρ' => rw [em] at p0; exact p0
      | bad => rw [em] at p0; exact p0⟩
  · subst ex
    obtain ⟨u, rfl, ru⟩ := vals1 r1
    obtain ⟨a, L, rfl, hH, kt, h1, h2⟩ := rs
    cases ru
    unfold gOnce at eo
    split at eo <;> cases eo
    rename_i ok
    have sub := s1'.sub
    have hw : X.w = C.K.w := congrArg Kw.w hK
    rw [← hw] at hH
    rw [← hK] at h1
    refine sorted_dat I1 sub hu (fun E R k => coll_set hc I1 sub hH kt h1 h2 ok E R k) fun b ws hb dv => ?_
    exact Alloc.post (F' := F1) (H' := upd H1 b (.lst ws)) (v := .ref b) s1' (.lst hb (hK ▸ dv)) q
end
end Eg
namespace Eg
open PySem L2 PySem.W PySem.SeqAt PySem.Spec PyProof.Rows
/-! ## dict(pairs) of a list of pairs, tuples as keys -/
def pairsD : List PyData → Option (List (PyData × PyData))
  | [] => some []
  | .tuple [k, d] :: ds => if keyT k = true then (pairsD ds).map ((k, d) :: ·) else none
  | _ => none
def kFill (kvs ps : List (PyData × PyData)) : List (PyData × PyData) := ps.foldl (fun acc p => kPut acc p.1 p.2) kvs
def gDict : List PyData → Option (List (PyData × PyData))
  | [.list ds] => if ds.length ≤ sizeLine then pairsD ds else none
  | _ => none
def mDictL (ms : M (List Arg)) : M OD := (mL gDict ms).bind fun ps => M.ret (.kd (kFill [] ps))
/-- pairs as they stand -/
inductive PR (K : Kw) (F : Hp) : List Addr → List KRow → List (PyData × PyData) → Prop
  | nil : PR K F [] [] []
  | cons {T b : Addr} {k d : PyData} {v : V} {Ts : List Addr} {L : List KRow} {ps : List (PyData × PyData)} : keyT k = true → SqT K F T [.ref b, v] → DV K F (.ref b) k → DV K F v d → PR K F Ts L ps → PR K F (T :: Ts) ((nk k, b, v) :: L) ((k, d) :: ps)
theorem PR.of {K : Kw} {F : Hp} : ∀ {vs : List V} {ds : List PyData} {ps : List (PyData × PyData)}, DVs K F vs ds → pairsD ds = some ps → ∃ Ts L, PR K F Ts L ps ∧ vs = Ts.map V.ref
  | _, _, _, .nil, e => by cases e; exact ⟨[], [], .nil, rfl⟩
  | _, _, _, .cons (d := d0) h t, e => by
    match d0, h, e with
    | .tuple [k, d], h, e =>
      simp only [pairsD] at e
      split at e
      · rename_i kt
        cases e2 : pairsD _ with
        | none => rw [e2] at e; cases e
        | some ps =>
          rw [e2] at e
          cases e
          obtain ⟨Ts, L, r, ev⟩ := PR.of t e2
          cases h with
          | tup h1 h2 =>
            cases h2 with
            | cons a1 a2 =>
              cases a2 with
              | cons a3 a4 =>
                cases a4
                obtain ⟨b, rfl⟩ := dv_tup a1 kt
                exact ⟨_ :: Ts, _ :: L, .cons kt h1 a1 a3 r, by rw [List.map_cons, ev]⟩
      · cases e
theorem PR.len {K : Kw} {F : Hp} : ∀ {Ts : List Addr} {L : List KRow} {ps : List (PyData × PyData)}, PR K F Ts L ps → Ts.length = ps.length ∧ L.length = ps.length
  | _, _, _, .nil => ⟨rfl, rfl⟩
  | _, _, _, .cons _ _ _ _ t => by
    obtain ⟨a, b⟩ := PR.len t
    simp only [List.length_cons, a, b, and_self]
def lFill (L0 L : List KRow) : List KRow := L.foldl (fun acc x => lPut acc x.1 x.2.1 x.2.2) L0
theorem PR.fill {K : Kw} {F : Hp} : ∀ {Ts : List Addr} {L : List KRow} {ps : List (PyData × PyData)}, PR K F Ts L ps → ∀ {L0 : List KRow} {kvs : List (PyData × PyData)}, KN K F L0 kvs → KN K F (lFill L0 L) (kFill kvs ps)
  | _, _, _, .nil, _, _, h => h
  | _, _, _, .cons kt _ hk hd t, _, _, h => by
    obtain ⟨kb, kd, _⟩ := keyT_at kt
    exact PR.fill t (h.put kb kd hk hd)
theorem rows_fill : ∀ {L : List KRow} {xs : List HRow}, Paired RowR L xs → ∀ {L0 : List KRow} {xs0 : List HRow}, Paired RowR L0 xs0 → Paired RowR (lFill L0 L) (storedAllH xs0 xs)
  | _, _, .nil, _, _, h => h
  | _, _, .cons (a := x) (b := y) r t, L0, xs0, h => by
    have q := rows_put (n := x.1) (b := x.2.1) r.2.2 h
    have e : storedH xs0 x.1 x.2.1 y.2.2 = storedH xs0 y.1 y.2.1 y.2.2 := by rw [r.1, r.2.1]
    rw [e] at q
    exact rows_fill t q
theorem lFill_len : ∀ (L L0 : List KRow), (lFill L0 L).length ≤ L0.length + L.length
  | [], L0 => Nat.le_refl _
  | x :: L, L0 => by
    have h1 := lFill_len L (lPut L0 x.1 x.2.1 x.2.2)
    have h2 := lPut_len L0 x.1 x.2.1 x.2.2
    rw [List.length_cons]
    show (lFill (lPut L0 x.1 x.2.1 x.2.2) L).length ≤ _
    omega
section
variable {X : Cx} {C : Ct} {e : Expr} {pos p : Pos}
theorem PR.heap {pins : List (Addr × Obj)} {σ : L2.St} {F H : Hp} {s : Shared} (I : Inv X pins σ H s) (sub : Same F H) : ∀ {Ts : List Addr} {L : List KRow} {ps : List (PyData × PyData)}, PR X.KW F Ts L ps →
    ∃ xs : List HRow, Paired RowR L xs ∧ (∀ (j : Nat) (x : HRow), xs[j]? = some x → ∃ T, Ts[j]? = some T ∧ s.heap.IsTuple T #[.ref x.2.1, x.2.2]) ∧ ∀ x ∈ xs, (nestedKind X.prog X.w).is s.heap x.1 x.2.1
  | _, _, _, .nil => ⟨[], .nil, fun j x h => by simp at h, fun _ h => nomatch h⟩
  | _, _, _, .cons (T := T) (b := b) (k := k) (v := v) kt hT hk hd t => by
    obtain ⟨xs, r, q, ks⟩ := PR.heap I sub t
    obtain ⟨its, rv, pl, _⟩ := I.tuple (sub.sqT hT)
    cases rv with
    | cons r1 rv =>
      cases rv with
      | cons r2 rv =>
        cases rv
        rename_i u1 u2
        cases r1
        obtain ⟨kb, kd, _⟩ := keyT_at kt
        refine ⟨(nk k, b, u2) :: xs, .cons ⟨rfl, rfl, r2⟩ r, fun j x h => ?_, fun x hx => ?_⟩
        · cases j with
          | zero => cases h; exact ⟨T, rfl, pl⟩
          | succ j => exact q j x (by simpa using h)
        · rcases List.mem_cons.mp hx with z | hx
          · rw [z]; exact key_at I (DV.mono sub hk) kb kd
          · exact ks x hx
theorem refs_map : ∀ {Ts : List Addr} {us : List Value}, Vals (Ts.map V.ref) us → us = Ts.map Value.ref
  | [], _, .nil => rfl
  | T :: Ts, _, .cons r t => by
    cases r
    rw [refs_map t]
    rfl
theorem o_dictL {x : Str} {ms : M (List Arg)} (hc : X.calm = true) (hu : X.A.units + 64 < cLine) (hg : Gl X x) (hm : X.mg x = none) (hv : bootBuiltins x = some (.type "dict")) (ha : PA X [e] (tL C ms)) (hn : x ≠ "__name__" := by decide) (hdb : (x == ("__debug__" : Str)) = false := by decide)
    (he : starEach [e] X.env = (false, eval e X.env) :: starEach [] X.env := by rfl) (hpl : (backTo pos (starEach [] X.env)).any (·.1) = false := by rfl) (hK : X.KW = C.K := by rfl) : PE X (.Call (.Name x p) [e] [] pos) (tO C (mDictL ms)) := by
  refine ⟨fun pins s σ H Q I ⟨F, ρ, sr, pp⟩ => ?_⟩
  refine wpAny_Call_Name_kw (ld_blt I hg hm hv ?_ hn hdb)
  have go : PostE C (rO C.K) σ ρ F H Q (mL (fun ds => (gDict ds).map fun ps => OD.kd (kFill [] ps)) ms ρ) := by
    have e : mDictL ms ρ = mL (fun ds => (gDict ds).map fun ps => OD.kd (kFill [] ps)) ms ρ := by
      unfold mDictL mL M.bind M.get M.lift M.ret
      cases ms ρ with
      | ok as ρ1 =>
        simp only
        cases resL ρ1 as with
        | none => rfl
        | some ds =>
          simp only [Option.bind_eq_bind, Option.bind_some]
          cases gDict ds <;> rfl
      | _ => rfl
    rw [← e]
    exact pp
  refine PyProof.Rows.callWith_type1 (thn (ha.run pos pins s σ H (fun xs H2 => ∃ ds d ρ2 F2, SR C.K F2 H2 σ ρ2 ∧ Vws C.K F2 H2 xs ds ∧ (gDict ds).map (fun ps => OD.kd (kFill [] ps)) = some d ∧ PostE C (rO C.K) σ ρ2 F2 H2 Q (.ok d ρ2)) I (many sr stb_O go fun xs ds d ρ2 F2 H2 s2 vw e q => ⟨ds, d, ρ2, F2, s2, vw, e, q⟩))
    fun us s1 ⟨vs, H1, I1, r1, ds, d, ρ2, F2, s2, vw, eg, q⟩ => ?_) he hpl
  have hw : X.w = C.K.w := congrArg Kw.w hK
  have big := I1.big
  obtain ⟨ps, eps, ed⟩ := Option.map_eq_some_iff.mp eg
  subst ed
  have hn : H1 s1.heap.objs.size = none := I1.hok.fresh (Nat.le_refl _)
  -- the pairs, as they stand
  have core : ∀ (es : List PyData) (ws : List V), DVs C.K F2 ws es → pairsD es = some ps → es.length ≤ sizeLine → ∃ (Ts : List Addr) (xs : List HRow), ws = Ts.map V.ref ∧ xs.length = Ts.length ∧ Ts.length ≤ sizeLine ∧
      (∀ (j : Nat) (x : HRow), xs[j]? = some x → ∃ T, Ts[j]? = some T ∧ s1.heap.IsTuple T #[.ref x.2.1, x.2.2]) ∧ (∀ x ∈ xs, (nestedKind X.prog X.w).is s1.heap x.1 x.2.1) ∧
      ∀ h' tk, h'.DictOfH (nestedKind X.prog X.w) s1.heap.objs.size (storedAllH [] xs) → (∀ b o, s1.heap.get? b = some o → h'.get? b = some o) → EP X pins σ Q (.ref s1.heap.objs.size) { s1 with heap := h', toks := tk } := fun es ws dv ep hz => by
    rw [← hK] at dv
    obtain ⟨Ts, L, r, rfl⟩ := PR.of dv ep
    obtain ⟨xs, rr, q1, q2⟩ := PR.heap I1 s2.sub r
    have l1 : xs.length = Ts.length := by rw [← Paired.length rr, r.len.1, r.len.2]
    have l2 : Ts.length ≤ sizeLine := by
      have := dv.len
      rw [List.length_map] at this
      omega
    refine ⟨Ts, xs, rfl, l1, l2, q1, q2, fun h' tk m keep => ⟨.ref s1.heap.objs.size, _, I1.laid (t' := tk) (o := KO X.w s1.heap.objs.size (lFill [] L)) keep (Nat.le_refl _) (kd_new (P := X.prog) (beq_eq_false_iff_ne.mpr (Ne.symm (Nat.ne_of_lt big))) ?_ (rows_fill rr .nil) m), rfl, ?_⟩⟩
    · have := lFill_len L []
      rw [List.length_nil, Paired.length rr, l1] at this
      omega
    · have kn := r.fill (L0 := []) (kvs := []) .nil
      rw [hK] at kn
      have fp := s2.sub.free hn
      rw [hw]
      exact q F2 _ _ (Grow.fresh hn) (s2.fresh hn) ⟨⟨_, _, rfl, fp, upd_same, kn⟩, fun _ a ea => by
        cases ea
        refine ⟨fun z => ?_, .inl hn⟩
        obtain ⟨_, u, e2⟩ := own.at s2 z
        rw [hn] at e2; cases e2⟩
  have items : ∀ (Ts : List Addr) (xs : List HRow) (its : List Value), its = Ts.map Value.ref → xs.length = Ts.length → (∀ (j : Nat) (x : HRow), xs[j]? = some x → ∃ T, Ts[j]? = some T ∧ s1.heap.IsTuple T #[.ref x.2.1, x.2.2]) →
      PairItems s1.heap its.toArray (fun j => Ts.getD j 0) (xs.map fun x => (Value.ref x.2.1, x.2.2)) := fun Ts xs its e l q1 => by
    subst e
    refine ⟨by simp [l], fun j k v h => ?_⟩
    rw [List.getElem?_map] at h
    obtain ⟨x, hx, ex⟩ := Option.map_eq_some_iff.mp h
    cases ex
    obtain ⟨T, hT, it⟩ := q1 j x hx
    have g : Ts.getD j 0 = T := by rw [List.getD_eq_getElem?_getD, hT]; rfl
    show (Ts.map Value.ref).toArray[j]? = some (.ref (Ts.getD j 0)) ∧ PairAt s1.heap (Ts.getD j 0) _ _
    rw [g]
    exact ⟨by simp [hT], .inl it⟩
  have have' : ∀ xs : List HRow, PairsHaveH (nestedKind X.prog X.w) (xs.map fun x => (Value.ref x.2.1, x.2.2)).length (PairRel (xs.map fun x => (Value.ref x.2.1, x.2.2))) xs := fun xs => by
    refine ⟨by simp, fun i key v h => ?_⟩
    have h : (xs.map fun x => (Value.ref x.2.1, x.2.2))[i]? = some (key, v) := h
    rw [List.getElem?_map] at h
    obtain ⟨x, hx, ex⟩ := Option.map_eq_some_iff.mp h
    cases ex
    exact ⟨x.1, x.2.1, hx, rfl⟩
  have stay : ∀ xs : List HRow, (∀ x ∈ xs, (nestedKind X.prog X.w).is s1.heap x.1 x.2.1) → KeysStay (nestedKind X.prog X.w) s1.heap s1.heap.objs.size [] xs := fun xs ks h' k x hx =>
    nestedKind_stays.stays (fun b o _ _ e _ => k b o (Nat.ne_of_lt (Heap.lt_size e)) (by simp) e) (ks x hx)
  cases vw with
  | nil => cases eps
  | cons h t =>
    cases t with
    | cons _ _ => rename_i d0 _ _ _ _ _ _; cases d0 <;> cases eps
    | nil =>
      rename_i x0 d0
      obtain ⟨u, rfl, ru⟩ := vals1 r1
      cases d0 with
      | list es =>
        simp only [gDict] at eps
        split at eps <;> try cases eps
        rename_i hz
        obtain ⟨b, ws, rfl, h1, h2⟩ := h
        cases ru
        obtain ⟨its, rv, pl, _⟩ := I1.list (SqL.of h1)
        obtain ⟨Ts, xs, rfl, l1, l2, q1, q2, fin⟩ := core es ws h2 eps hz
        have pi := items Ts xs its (refs_map rv) l1 q1
        obtain ⟨ob, nn, z1, z2, z3, z4⟩ := pl
        exact call_dict_pairsH (PairArg.list b its.toArray _ _) (I1.ok.hd hc) (show X.A.units + 1 + 1 + 8 < cLine by omega) ⟨⟨ob, nn, z1, z2, z3, z4⟩, pi⟩ (have' xs) (stay xs q2) (by simp; omega) fun h' tk m keep => fin h' tk m fun b o e => keep b o (by simp) e
      | _ => cases eps
end
end Eg
namespace Eg
open PySem L2 PySem.W PySem.SeqAt
theorem b_dict : bootBuiltins "dict" = some (.type "dict") := by decide +kernel
/-! ## dicts with tuples as keys, sets: values -/
def onKo {γ : Type} (x : Option (List (PyData × PyData))) (f : List (PyData × PyData) → PyData → Option γ) (kd : PyData) : M γ := fun ρ => match x with
  | some kvs => if keyT kd = true then Res.opt (f kvs kd) ρ else .bad
  | none => .bad
section
variable {ρ : Rho}
theorem v_onK {γ : Type} (i : Nat) (mk : M PyData) (f : List (PyData × PyData) → PyData → Option γ) : onK i mk f ρ = (mk ρ).go fun kd ρ => onKo (dctK ρ[i]?) f kd ρ := by
  refine congrArg (Res.go (mk ρ)) (funext fun kd => funext fun r => ?_)
  unfold onKo
  cases dctK r[i]? with
  | none => rfl
  | some kvs =>
    simp only
    split
    · cases f kvs kd <;> rfl
    · rfl
theorem v_kget (i : Nat) (mk : M PyData) : mKGet i mk ρ = (mk ρ).go fun kd ρ => onKo (dctK ρ[i]?) kAt kd ρ := v_onK i mk kAt
theorem v_kin (i : Nat) (mk : M PyData) : mKIn i mk ρ = (mk ρ).go fun kd ρ => onKo (dctK ρ[i]?) (fun kvs k => some (kHas kvs k)) kd ρ := v_onK i mk _
theorem v_knot (i : Nat) (mk : M PyData) : mKNot i mk ρ = (mk ρ).go fun kd ρ => onKo (dctK ρ[i]?) (fun kvs k => some (!kHas kvs k)) kd ρ := v_onK i mk _
theorem v_dck (kvs : List (PyData × PyData)) : dctK (some (some (.kd kvs))) = some kvs := rfl
theorem v_dcn (kvs : List (PyData × PyData)) : dctK (some (some (.sn kvs))) = some kvs := rfl
theorem v_onKo {γ : Type} {kvs : List (PyData × PyData)} {f : List (PyData × PyData) → PyData → Option γ} {kd : PyData} (h : keyT kd = true) : onKo (some kvs) f kd ρ = Res.opt (f kvs kd) ρ := if_pos h
def kputO (x : Option (Option OD)) (i : Nat) (d kd : PyData) : M Out := fun ρ => match x with
  | some (some (.kd kvs)) => if keyT kd = true ∧ kvs.length < sizeLine then .ok .nx (ρ.set i (some (.kd (kPut kvs kd d)))) else .bad
  | _ => .bad
theorem v_kput (i : Nat) (mv mk : M PyData) : sKPut i mv mk ρ = (mv ρ).go fun d => mHas i (mk.bind fun kd ρ => kputO ρ[i]? i d kd ρ) := by
  refine congrArg (Res.go (mv ρ)) (funext fun d => congrArg (mHas i) (funext fun r => congrArg (Res.go (mk r)) (funext fun a => funext fun r2 => ?_)))
  unfold kputO
  cases r2[i]? with
  | none => rfl
  | some o => cases o with
    | none => rfl
    | some o => cases o <;> rfl
theorem v_kputO {kvs : List (PyData × PyData)} {i : Nat} {d kd : PyData} (h : keyT kd = true) (l : kvs.length < sizeLine) : kputO (some (some (.kd kvs))) i d kd ρ = .ok .nx (ρ.set i (some (.kd (kPut kvs kd d)))) := if_pos ⟨h, l⟩
def kfrO (x : Option (Option OD)) (i : Nat) : M Arg := fun ρ => match x with
  | some (some (.kd kvs)) => .ok (.slot i) (ρ.set i (some (.sn kvs)))
  | some (some (.sn _)) => .ok (.slot i) ρ
  | _ => .bad
theorem v_kfrz (i : Nat) : mKFrz i ρ = kfrO ρ[i]? i ρ := by
  unfold mKFrz kfrO
  cases ρ[i]? with
  | none => rfl
  | some o => cases o with
    | none => rfl
    | some o => cases o <;> rfl
theorem v_kfrk (kvs : List (PyData × PyData)) (i : Nat) : kfrO (some (some (.kd kvs))) i ρ = .ok (.slot i) (ρ.set i (some (.sn kvs))) := rfl
theorem v_kfrn (kvs : List (PyData × PyData)) (i : Nat) : kfrO (some (some (.sn kvs))) i ρ = .ok (.slot i) ρ := rfl
def kcO (x : Option (List (PyData × PyData))) (g : List (PyData × PyData) → Option OD) : M OD := fun ρ => Res.opt (x.bind g) ρ
theorem v_kcall (i : Nat) (g : List (PyData × PyData) → Option OD) : mKCall i g ρ = kcO (dctK ρ[i]?) g ρ := by
  unfold mKCall kcO
  cases (dctK ρ[i]?).bind g <;> rfl
theorem v_kcO (kvs : List (PyData × PyData)) (g : List (PyData × PyData) → Option OD) : kcO (some kvs) g ρ = Res.opt (g kvs) ρ := rfl
theorem v_sset (ms : M (List Arg)) : mSSet ms ρ = (mL gKeys ms ρ).go fun ds => M.lift (gOnce ds) := rfl
theorem v_dictL (ms : M (List Arg)) : mDictL ms ρ = (mL gDict ms ρ).go fun ps => M.ret (.kd (kFill [] ps)) := rfl
theorem v_kcomp (src : M (List PyData)) (t : Tgt) (mt : M Bool) (mk mv : M PyData) (vs : List Nat) : mKComp src t mt mk mv vs ρ = (src ρ).go fun xs ρ => match kcGo t mt mk mv vs xs [] ρ with
  | .ok acc ρ' => if ρ'.length = ρ.length then .ok (.kd acc) (restR ρ ρ' vs) else .bad
  | _ => .bad := rfl
end
section
variable {X : Cx} {C : Ct} {a b : Expr} {pos : Pos} {P : List Nat}
/-- name = [.. for .. for ..] -/
theorem s_setC2 {i : Nat} {y : Str} {py : Pos} {elt tg iter tg1 iter1 : Expr} {ifs ifs1 : List Expr} {g g1 : TG} {t t1 : Tgt} {src src1 : M (List PyData)} {mt mt1 : M Bool} {me : M PyData} {n : Nat} {scope : Scope} {own : List (Str × Nat)} {vs1 : List Nat} {pos spos : Pos} (hc : X.calm = true) (hN : X.N.Nodup) (hy : X.N[i]? = some y) (hyl : X.env.scope.names.lookup y = some .local)
    (hsw : swapsWith (.ListComp elt [⟨tg, iter, ifs, 0⟩, ⟨tg1, iter1, ifs1, 0⟩] scope pos) (some (.Name y py)) spos.line X.env = pure true) (hi : PI X tg iter (tI C src)) (ok : BlkOk X.N X.env.scope scope own)
    (hg : ∀ (s : Shared) (H : Hp) (D : Addr) (cl : List (Str × Addr)) (fp : List Addr), PG (X.blk s H scope (compEnvC scope cl D X.env) fp) tg g) (htg : TgOk C.quiet (outs n (own.map (·.2))) n g t)
    (ht : ∀ (s : Shared) (H : Hp) (D : Addr) (cl : List (Str × Addr)) (fp : List Addr), PTs (X.blk s H scope (compEnvC scope cl D X.env) fp) ifs (tT C.quiet mt))
    (hi1 : ∀ (s : Shared) (H : Hp) (D : Addr) (cl : List (Str × Addr)) (fp : List Addr), PI (X.blk s H scope (compEnvC scope cl D X.env) fp) tg1 iter1 (tI C.quiet src1))
    (hg1 : ∀ (s : Shared) (H : Hp) (D : Addr) (cl : List (Str × Addr)) (fp : List Addr), PG (X.blk s H scope (compEnvC scope cl D X.env) fp) tg1 g1) (htg1 : TgOk C.quiet (outs n vs1) n g1 t1)
    (ht1 : ∀ (s : Shared) (H : Hp) (D : Addr) (cl : List (Str × Addr)) (fp : List Addr), PTs (X.blk s H scope (compEnvC scope cl D X.env) fp) ifs1 (tT C.quiet mt1))
    (he : ∀ (s : Shared) (H : Hp) (D : Addr) (cl : List (Str × Addr)) (fp : List Addr), PE (X.blk s H scope (compEnvC scope cl D X.env) fp) elt (tD C.quiet me)) (hv : ∀ i ∈ vs1, i ∈ own.map (·.2) := by decide) (hP : i ∉ P := by decide) (hL : X.N.length = n := by rfl) (hs : ∀ x, foldedSetIterable iter X.env x = pure x := by intro _; rfl) (hs1 : ∀ env x, foldedSetIterable iter1 env x = pure x := by intro _ _; rfl) :
    PS X (.Assign [.Name y py] (.ListComp elt [⟨tg, iter, ifs, 0⟩, ⟨tg1, iter1, ifs1, 0⟩] scope pos) spos) (tS C P (sSet i (mComp2 src t mt src1 t1 mt1 me (own.map (·.2)) vs1))) := by
  refine ⟨fun pins s σ H D I ⟨F, ρ, sr, p⟩ => (ps_setLc2 hc hN hy hyl hsw hi ok hv hg ht hi1 hg1 ht1 he hs hs1).run pins s σ H D I ?_⟩
  have q := PostS.set p (by rw [I.len]; exact (List.getElem?_eq_some_iff.mp hy).1) hP
  exact lc2_read (by rw [I.len, hL]) htg htg1 hv ⟨F, ρ, sr, q⟩
/-- a, b = x, y where a tuple stands between -/
theorem s_parC {i j n : Nat} {tx ty : Expr} {ma mb : M OD} {pt : Pos} {kt k2 pt2} (hc : X.calm = true) (gx : PG X tx (gName i)) (gy : PG X ty (gName j)) (ha : PE X a (tO C ma)) (hb : PE X b (tO C mb)) (li : i < n := by decide) (lj : j < n := by decide) (hPi : i ∉ P := by decide) (hPj : j ∉ P := by decide) (hN : X.N.length = n := by rfl)
    (hw : swappedStores [.Tuple [tx, ty] kt pt] (.Tuple [a, b] k2 pt2) X.env = pure none := by rfl) (hs : swapsWithSole [.Tuple [tx, ty] kt pt] (.Tuple [a, b] k2 pt2) pos.line X.env = pure false := by rfl)
    (h1 : (assignEach [.Tuple [tx, ty] kt pt] X.env).map (·.2) = [assign (.Tuple [tx, ty] kt pt) X.env] := by rfl) (hn : (assignEach [tx, ty] X.env).length = 2 := by rfl) (hst : (assignEach [tx, ty] X.env).findIdx? (·.1) = none := by rfl)
    (hsa : starEach [a, b] X.env = (false, eval a X.env) :: starEach [b] X.env := by rfl) (hsb : starEach [b] X.env = (false, eval b X.env) :: starEach [] X.env := by rfl)
    (hg1 : PGs X [tx, ty] (gCons (gName i) (gCons (gName j) gNil))) :
    PS X (.Assign [.Tuple [tx, ty] kt pt] (.Tuple [a, b] k2 pt2) pos) (tS C P (sPar i j ma mb)) := by
  refine ⟨fun pins s σ H D I ⟨F, ρ, sr, p⟩ => (ps_asg (pe_tup (pa_cons ha (pa_cons hb pa_nil hsb) hsa)) (pg_tup (n := 2) hc hg1 hn hst) hs hw h1).run pins s σ H D I ?_⟩
  have li : i < σ.length := by rw [I.len, hN]; exact li
  have lj : j < σ.length := by rw [I.len, hN]; exact lj
  unfold sPar M.bind at p
  refine ⟨F, ρ, sr, ?_⟩
  cases e1 : ma ρ with
  | bad => rw [e1] at p; exact p
  | ex x ρ' => rw [e1] at p; exact fun F' H' cls d g s r => p F' H' σ cls d g s Pres.refl r
  | ok u ρ1 =>
  simp only [e1] at p
  intro F1 H1 v g1 s1 r1
  refine ⟨F1, ρ1, s1, ?_⟩
  cases e2 : mb ρ1 with
  | bad => simp only [e2] at p; exact p.elim
  | ex x ρ' => simp only [e2] at p; exact fun F' H' cls d g s r => p F' H' σ cls d (g1.trans g) s Pres.refl r
  | ok w ρ2 =>
  simp only [e2] at p
  intro F2 H2 z g2 s2 r2
  refine ⟨by simp [sizeLine_eq], fun q hq => ⟨q, [v, z], rfl, SqT.of upd_same, rfl, v, [z], rfl, z, [], rfl, rfl, ?_⟩⟩
  have g3 := g2.trans (Grow.fresh (ow := own σ ρ2) (F := F2) (o := .tup [v, z]) hq)
  have s3 := s2.fresh (o := .tup [v, z]) hq
  have one : ∀ c, v = .ref c → u.isO = true → ¬ own σ ρ1 c ∧ (∃ o, H1 c = some o) ∧ F1 c = none := fun c ea io => by
    obtain ⟨b, o, eb, fb, hb⟩ := r1.1.refs io
    rw [eb] at ea; cases ea
    exact ⟨(r1.2 io c eb).1, ⟨o, hb⟩, fb⟩
  have or1 : OR C.K F2 (upd H2 q (.tup [v, z])) v u := r1.1.keep g3.ext fun c ea io => by
    obtain ⟨n1, ⟨o, ho⟩, fa⟩ := one c ea io
    refine ⟨?_, fun o' h => g3.keep c o' h n1⟩
    cases e : F2 c with
    | none => rfl
    | some y =>
      rcases g3.new c (by rw [e]; simp) with y | y | y
      · exact absurd fa y
      · rw [ho] at y; cases y
      · exact absurd y n1
  have no2 : ∀ c, v = .ref c → u.isO = true → ¬ own σ ρ2 c := fun c ea io y => by
    obtain ⟨n1, ⟨o, ho⟩, _⟩ := one c ea io
    rcases g3.ows c y with k | k
    · exact n1 k
    · rw [ho] at k; cases k
  have or2 : OR C.K F2 (upd H2 q (.tup [v, z])) z w := r2.1.keep (Same.refl _) fun c ea io => by
    obtain ⟨b, o, eb, fb, hb⟩ := r2.1.refs io
    rw [eb] at ea; cases ea
    exact ⟨fb, fun o' h => by rw [upd_ne (ne_of_none h hq)]; exact h⟩
  have sA : SR C.K F2 (upd H2 q (.tup [v, z])) (σ.set i (some v)) (ρ2.set i (some u)) := s3.store li or1 fun io c ea => no2 c ea io
  have sB : SR C.K F2 (upd H2 q (.tup [v, z])) ((σ.set i (some v)).set j (some z)) ((ρ2.set i (some u)).set j (some w)) := by
    refine sA.store (by rw [List.length_set]; exact lj) or2 fun io c ea y => ?_
    rcases own.store li y with k | ⟨k1, k2⟩
    · exact (r2.2 io c ea).1 k
    · obtain ⟨n1, ⟨o, ho⟩, _⟩ := one c k2 k1
      rcases (r2.2 io c ea).2 with m | m
      · rw [ho] at m; cases m
      · exact n1 m
  have g := g1.trans g3
  refine p F2 _ _ ⟨g.ext, g.keep, g.new, fun c y => ?_⟩ sB ⟨by rw [List.length_set, List.length_set], fun p hp => ?_⟩
  · rcases own.store (by rw [List.length_set]; exact lj) y with y | ⟨k1, k2⟩
    · rcases own.store li y with k | ⟨k1, k2⟩
      · exact g.ows c k
      · exact ((r1.2 k1 c k2).2).symm
    · rcases (r2.2 k1 c k2).2 with m | m
      · exact (g1.back m).symm
      · exact g1.ows c m
  · rw [List.getElem?_set_ne (fun z => hPj (by rw [z]; exact hp)), List.getElem?_set_ne (fun z => hPi (by rw [z]; exact hp))]
end
theorem kHas_put (kvs : List (PyData × PyData)) (k d x : PyData) : kHas (kPut kvs k d) x = (kHas kvs x || decide (nk k = nk x)) := by
  unfold kPut
  split
  · rename_i h
    have e : kHas (kRepl k d kvs) x = kHas kvs x := by
      unfold kRepl kHas
      rw [List.any_map]
      congr 1
      funext p
      by_cases q : nk p.1 = nk k <;> simp [q]
    rw [e]
    by_cases q : nk k = nk x
    · unfold kHas at h ⊢
      simp only [q] at h
      simp [h]
    · simp [q]
  · unfold kHas
    rw [List.any_append]
    simp
theorem kPut_len (kvs : List (PyData × PyData)) (k d : PyData) : (kPut kvs k d).length ≤ kvs.length + 1 := by
  unfold kPut kRepl
  split <;> simp
theorem kFill_len : ∀ (ps kvs : List (PyData × PyData)), (kFill kvs ps).length ≤ kvs.length + ps.length
  | [], kvs => Nat.le_refl _
  | p :: ps, kvs => by
    have h1 := kFill_len ps (kPut kvs p.1 p.2)
    have h2 := kPut_len kvs p.1 p.2
    rw [List.length_cons]
    show (kFill (kPut kvs p.1 p.2) ps).length ≤ _
    omega
theorem kHas_fill (x : PyData) : ∀ (ps kvs : List (PyData × PyData)), kHas (kFill kvs ps) x = (kHas kvs x || kHas ps x)
  | [], kvs => by simp [kFill, kHas]
  | p :: ps, kvs => by
    show kHas (kFill (kPut kvs p.1 p.2) ps) x = _
    rw [kHas_fill x ps, kHas_put]
    simp [kHas, Bool.or_assoc]
section
variable {α : Type} {src : M (List PyData)} {t : Tgt} {mk mv : M PyData} {vs : List Nat} {ρ ρ0 : Rho}
theorem kc_map {Inv : Rho → Prop} (f k g : α → PyData) : ∀ (xs : List α) (acc : List (PyData × PyData)) (ρ : Rho), Inv ρ → acc.length + xs.length ≤ sizeLine → (∀ x ∈ xs, keyT (k x) = true) →
    (∀ x ∈ xs, ∀ ρ, Inv ρ → ∃ ρ1 ρ2 ρ3, t (f x) (wipeR ρ vs) = some ρ1 ∧ mk ρ1 = .ok (k x) ρ2 ∧ mv ρ2 = .ok (g x) ρ3 ∧ Inv ρ3) → ∃ ρ', Inv ρ' ∧ kcGo t (M.ret true) mk mv vs (xs.map f) acc ρ = .ok (kFill acc (xs.map fun x => (k x, g x))) ρ'
  | [], acc, ρ, i, _, _, _ => ⟨ρ, i, rfl⟩
  | x :: xs, acc, ρ, i, hl, hk, h => by
    obtain ⟨ρ1, ρ2, ρ3, e1, e2, e3, i3⟩ := h x List.mem_cons_self ρ i
    rw [List.length_cons] at hl
    have l2 := kPut_len acc (k x) (g x)
    obtain ⟨ρ', i', e'⟩ := kc_map f k g xs (kPut acc (k x) (g x)) ρ3 i3 (by omega) (fun y hy => hk y (List.mem_cons_of_mem _ hy)) fun y hy => h y (List.mem_cons_of_mem _ hy)
    refine ⟨ρ', i', ?_⟩
    rw [List.map_cons]
    simp only [kcGo, e1, M.ret, e2, e3]
    rw [if_pos ⟨hk x List.mem_cons_self, by omega⟩, e']
    rfl
/-- {k: v for ..} of a typed list; an item's reading leaves all but the block's names -/
theorem kcomp_pure {l : List α} {f : α → PyData} (k g : α → PyData) (hs : src ρ = .ok (l.map f) ρ0) (hl : l.length ≤ sizeLine) (hk : ∀ x ∈ l, keyT (k x) = true)
    (step : ∀ x ∈ l, ∃ ρ1 ρ2 ρ3, t (f x) (wipeR ρ0 vs) = some ρ1 ∧ mk ρ1 = .ok (k x) ρ2 ∧ mv ρ2 = .ok (g x) ρ3 ∧ wipeR ρ3 vs = wipeR ρ0 vs) : mKComp src t (M.ret true) mk mv vs ρ = .ok (.kd (kFill [] (l.map fun x => (k x, g x)))) ρ0 := by
  obtain ⟨ρ', i, e⟩ := kc_map (Inv := fun r => wipeR r vs = wipeR ρ0 vs) f k g l [] ρ0 rfl (by rw [List.length_nil]; omega) hk fun x hx r hr => by
    obtain ⟨ρ1, ρ2, ρ3, e1, e2, e3, e4⟩ := step x hx
    exact ⟨ρ1, ρ2, ρ3, by rw [hr]; exact e1, e2, e3, e4⟩
  rw [v_kcomp, hs, v_go]
  simp only [e]
  rw [if_pos (by rw [← wipeR_len ρ' vs, i, wipeR_len]), restR_self i]
end
end Eg
namespace Eg
open PySem L2 PySem.W PySem.SeqAt PySem.Spec PyProof.Rows
/-! ## {k: v for .. for ..}, tuples as keys -/
abbrev Cl (t i : Expr) (fs : List Expr) : Comprehension := ⟨t, i, fs, 0⟩
/-- what a test's failure leads to is never met here -/
abbrev Nb (P : Program) (w : World) (A : Around) (env : Env) (R : Result → Shared → Prop) : Value → Shared → Prop := notedBy (model P w) A env fun e u => R (.error e) u
/-- a clause's tests, from the left -/
abbrev testsOf (fs : List Expr) (env : Env) : Sem Bool := forIn fs true fun c r => if r = true then do let ok ← isTrue c env (eval c env); pure (ForInStep.yield ok) else pure (ForInStep.yield r)
section
variable {P : Program} {w : World} {A : Around} {R : Result → Shared → Prop} {s : Shared} {kx vx tA iA tB iB : Expr} {fA fB : List Expr} {scope : Scope} {pos : Pos} {it : Value} {D : Addr} {env : Env}
abbrev two2 (kx vx tA iA tB iB : Expr) (fA fB : List Expr) (scope : Scope) (pos : Pos) : Expr := .DictComp kx vx [Cl tA iA fA, Cl tB iB fB] scope pos
/-- the second clause's loop -/
theorem loopB (J : Nat → Shared → Prop) (turn : ∀ n u, J n u → wpAny (model P w) A (pyNext it) (fun r u1 => match r with
    | none => R (.ok .next) u1
    | some v => wpAny (model P w) A (letOwnedTupleGo tB it v) (fun _ u2 => wpAny (model P w) A (assign tB env v) (fun _ u3 => wpAny (model P w) A (testsOf fB env) (fun yes u4 =>
        if yes = true then wpAny (model P w) A (eval kx env) (fun k u5 => wpAny (model P w) A (eval vx env) (fun x u6 => wpAny (model P w) A (dictSet D k x) (fun _ u7 => ∃ m, m < n ∧ J m u7) (Nb P w A env R) u6) (Nb P w A env R) u5) (Nb P w A env R) u4
        else ∃ m, m < n ∧ J m u4) (Nb P w A env R) u3) (Nb P w A env R) u2) (Nb P w A env R) u1) (Nb P w A env R) u)
    (n : Nat) (j : J n s) : codeAny (model P w) A (.compLoop (two2 kx vx tA iA tB iB fA fB scope pos) 1 it (.ref D) env) R s := by
  refine codeAny_loop rfl J (fun n u h => ?_) n j
  show wpAny _ A ((compTurn (two2 kx vx tA iA tB iB fA fB scope pos) 1 it (.ref D) env).onRaise (fun x => do noteFrame x env; theTreesLotGoes x)) _ _ u
  refine wpAny_noted ?_
  show wpAny _ A (standAt iB.pos >>= fun _ => pyNext it >>= _) _ _ u
  refine wpAny_bind (wpAny_standAt (wpAny_bind (wpAny_mono (turn n u h) (fun r u1 h1 => ?_) fun _ _ q => q)))
  match r, h1 with
  | none, h1 => exact wpAny_pure h1
  | some v, h1 =>
    show wpAny _ A (letOwnedTupleGo tB it v >>= fun _ => assign tB env v >>= fun _ => testsOf fB env >>= _) _ _ u1
    refine wpAny_bind (wpAny_mono h1 (fun _ u2 h2 => wpAny_bind (wpAny_mono h2 (fun _ u3 h3 => wpAny_bind (wpAny_mono h3 (fun yes u4 h4 => ?_) fun _ _ q => q)) fun _ _ q => q)) fun _ _ q => q)
    match yes, h4 with
    | false, h4 => exact wpAny_pure ⟨rfl, h4⟩
    | true, h4 =>
      exact wpAny_bind (wpAny_bind (wpAny_mono h4 (fun k u5 h5 => wpAny_bind (wpAny_holding (wpAny_mono h5 (fun x u6 h6 => wpAny_bind (wpAny_standAt (wpAny_holding (wpAny_mono h6 (fun _ u7 h7 => wpAny_pure ⟨rfl, h7⟩) fun _ _ q => q)))) fun _ _ q => q))) fun _ _ q => q))
/-- the first clause's loop -/
theorem loopA (hs : ∀ x, foldedSetIterable iB env x = pure x) (J : Nat → Shared → Prop) (turn : ∀ n u, J n u → wpAny (model P w) A (pyNext it) (fun r u1 => match r with
    | none => R (.ok .next) u1
    | some v => wpAny (model P w) A (letOwnedTupleGo tA it v) (fun _ u2 => wpAny (model P w) A (assign tA env v) (fun _ u3 => wpAny (model P w) A (testsOf fA env) (fun yes u4 =>
        if yes = true then wpAny (model P w) A (eval iB env) (fun x u5 => wpAny (model P w) A (pyIter x) (fun it2 u6 =>
          codeAny (model P w) A (.compStart (two2 kx vx tA iA tB iB fA fB scope pos) 1 it2 (.ref D) env) (fun r u7 => match r with
            | .ok _ => ∃ m, m < n ∧ J m u7
            | .error _ => False) u6) (Nb P w A env R) u5) (Nb P w A env R) u4
        else ∃ m, m < n ∧ J m u4) (Nb P w A env R) u3) (Nb P w A env R) u2) (Nb P w A env R) u1) (Nb P w A env R) u)
    (n : Nat) (j : J n s) : codeAny (model P w) A (.compLoop (two2 kx vx tA iA tB iB fA fB scope pos) 0 it (.ref D) env) R s := by
  refine codeAny_loop rfl J (fun n u h => ?_) n j
  show wpAny _ A ((compTurn (two2 kx vx tA iA tB iB fA fB scope pos) 0 it (.ref D) env).onRaise (fun x => do noteFrame x env; theTreesLotGoes x)) _ _ u
  refine wpAny_noted ?_
  show wpAny _ A (standAt iA.pos >>= fun _ => pyNext it >>= _) _ _ u
  refine wpAny_bind (wpAny_standAt (wpAny_bind (wpAny_mono (turn n u h) (fun r u1 h1 => ?_) fun _ _ q => q)))
  match r, h1 with
  | none, h1 => exact wpAny_pure h1
  | some v, h1 =>
    show wpAny _ A (letOwnedTupleGo tA it v >>= fun _ => assign tA env v >>= fun _ => testsOf fA env >>= _) _ _ u1
    refine wpAny_bind (wpAny_mono h1 (fun _ u2 h2 => wpAny_bind (wpAny_mono h2 (fun _ u3 h3 => wpAny_bind (wpAny_mono h3 (fun yes u4 h4 => ?_) fun _ _ q => q)) fun _ _ q => q)) fun _ _ q => q)
    match yes, h4 with
    | false, h4 => exact wpAny_pure ⟨rfl, h4⟩
    | true, h4 =>
      show wpAny _ A (eval iB env >>= fun x => standAt iB.pos >>= fun _ => foldedSetIterable iB env x >>= fun x => holding [x] (pyIter x) >>= fun it2 => runOwn (.compStart (two2 kx vx tA iA tB iB fA fB scope pos) 1 it2 (.ref D) env) env >>= fun _ => again (.compLoop (two2 kx vx tA iA tB iB fA fB scope pos) 0 it (.ref D) env)) _ _ u4
      refine wpAny_bind (wpAny_mono h4 (fun x u5 h5 => wpAny_bind (wpAny_standAt (wpAny_bind (wpAny_of_eq (hs x) (wpAny_bind (wpAny_holding (wpAny_mono h5 (fun it2 u6 h6 => wpAny_bind (wpAny_runOwn ?_)) fun _ _ q => q))))))) fun _ _ q => q)
      rw [Around.mark_none]
      refine codeAny_mono h6 fun r u7 h7 => ?_
      match r, h7 with
      | .ok f, h7 => exact wpAny_pure ⟨rfl, h7⟩
/-- the second clause begins -/
theorem startB (h0 : codeAny (model P w) A (.compLoop (two2 kx vx tA iA tB iB fA fB scope pos) 1 it (.ref D) env) R s)
    (h : wpAny (model P w) A (pyIter it) (fun it2 u => codeAny (model P w) A (.compLoop (two2 kx vx tA iA tB iB fA fB scope pos) 1 it2 (.ref D) env) R u) (Nb P w A env R) s) :
    codeAny (model P w) A (.compStart (two2 kx vx tA iA tB iB fA fB scope pos) 1 it (.ref D) env) R s := by
  refine codeAny_of_tree ?_
  show wpAny _ A ((compStart (two2 kx vx tA iA tB iB fA fB scope pos) 1 it (.ref D) env).onRaise (fun x => do noteFrame x env; standAt theWindowsPlace)) _ _ s
  refine wpAny_notedAt ?_
  unfold compStart
  show wpAny _ A (ask >>= _) _ _ s
  refine wpAny_bind (wpAny_askSetting (wpAny_ite ?_))
  split
  · first | exact wpAny_pure ⟨rfl, h0⟩ | exact wpAny_bind (wpAny_pure (wpAny_pure ⟨rfl, h0⟩))
  · have fin : wpAny (model P w) A (standAt iB.pos >>= fun _ => pyIter it >>= fun it2 => again (.compLoop (two2 kx vx tA iA tB iB fA fB scope pos) 1 it2 (.ref D) env)) (fun fin u => match fin with | .done f => R (.ok f) u | .again c => c.quiet = true ∧ codeAny (model P w) A c R u) (Nb P w A env R) s :=
      wpAny_bind (wpAny_standAt (wpAny_bind (wpAny_mono h (fun it2 u q => wpAny_pure ⟨rfl, q⟩) fun _ _ q => q)))
    exact wpAny_bind (wpAny_rule fin)
end
end Eg
namespace Eg
open PySem L2 PySem.W PySem.SeqAt PySem.Spec PyProof.Rows
def kc2Go (t : Tgt) (mt : M Bool) (src1 : M (List PyData)) (t1 : Tgt) (mt1 : M Bool) (mk mv : M PyData) (vs vs1 : List Nat) : List PyData → List (PyData × PyData) → M (List (PyData × PyData))
  | [], acc => M.ret acc
  | x :: xs, acc => fun ρ => match t x (wipeR ρ vs) with
    | none => .bad
    | some ρ1 => match mt ρ1 with
      | .ok false ρ2 => kc2Go t mt src1 t1 mt1 mk mv vs vs1 xs acc ρ2
      | .ok true ρ2 => (match src1 ρ2 with
        | .ok ys ρ3 => (match kcGo t1 mt1 mk mv vs1 ys acc ρ3 with
          | .ok acc' ρ4 => kc2Go t mt src1 t1 mt1 mk mv vs vs1 xs acc' ρ4
          | _ => .bad)
        | _ => .bad)
      | _ => .bad
def mKComp2 (src : M (List PyData)) (t : Tgt) (mt : M Bool) (src1 : M (List PyData)) (t1 : Tgt) (mt1 : M Bool) (mk mv : M PyData) (vs vs1 : List Nat) : M OD := src.bind fun xs => fun ρ => match kc2Go t mt src1 t1 mt1 mk mv vs vs1 xs [] ρ with
  | .ok acc ρ' => if ρ'.length = ρ.length then .ok (.kd acc) (restR ρ ρ' vs) else .bad
  | _ => .bad
section
variable {X : Cx} {C : Ct} {kx vx tA iA tB iB : Expr} {fA fB : List Expr} {pos : Pos}
/-- the second clause over one list of things, within the block Y -/
theorem kc_in {Y : Cx} {scope : Scope} {σ0 σ8 : L2.St} {ρ1 : Rho} {vs vs1 : List Nat} {F1 H1 : Hp} {D it : Addr} {fp : List Addr} {tn : Nat → Heap → Prop} {It : It} {g1 : TG} {t1 : Tgt} {mt1 : M Bool} {mk mv : M PyData} {n : Nat} {pins : List (Addr × Obj)} {R : Result → Shared → Prop} {ys : List PyData} {accI : List (PyData × PyData)} {ρI : Rho} {Ft : Hp}
    (hu : Y.A.units + 9 < cLine) (calm : Y.calm = true) (quiet : Y.xe = fun _ _ => False) (hK : Y.KW = C.K) (ln : σ8.length = n) (hD : H1 D = none)
    (pg : PG Y tB g1) (htg : TgOk C.quiet (outs n vs1) n g1 t1) (pt : PTs Y fB (tT C.quiet mt1)) (pk : PE Y kx (tD C.quiet mk)) (pv : PE Y vx (tD C.quiet mv)) (T : Turn Y.prog Y.w Y.K tB It fp it tn) (wk : WalkD C.K Ft It ys)
    (far : ∀ (H : Hp), (∀ b ∈ fp, H b = none) → ∀ b ∈ fp, FpOk Y pins H b)
    (fin : ∀ u H F ρ, Inv Y pins (L2.wipe σ8 vs1) H u → Same Ft F → KMid C σ0 ρ1 vs F1 H1 D (L2.wipe σ8 vs1) (wipeR ρ vs1) F H accI → ρ = ρI → R (.ok .next) u) :
    ∀ (s : Shared) (H F : Hp) (ρ : Rho) (acc : List (PyData × PyData)), Inv Y pins (L2.wipe σ8 vs1) H s → tn 0 s.heap → (∀ b ∈ fp, H b = none) → Same Ft F → KMid C σ0 ρ1 vs F1 H1 D (L2.wipe σ8 vs1) (wipeR ρ vs1) F H acc → kcGo t1 mt1 mk mv vs1 ys acc ρ = .ok accI ρI →
      codeAny (model Y.prog Y.w) Y.A (.compLoop (two2 kx vx tA iA tB iB fA fB scope pos) 1 (.ref it) (.ref D) Y.env) R s := by
  intro s H F ρ acc J0 st0 ne0 sub0 mid0 run
  have hw : Y.w = C.K.w := congrArg Kw.w hK
  refine loopB (fun m u => ∃ i H', m = ys.length - i ∧ Inv Y pins (L2.wipe σ8 vs1) H' u ∧ tn i u.heap ∧ (∀ b ∈ fp, H' b = none) ∧ i ≤ ys.length ∧ ∃ F' ρ' acc', Same Ft F' ∧ KMid C σ0 ρ1 vs F1 H1 D (L2.wipe σ8 vs1) (wipeR ρ' vs1) F' H' acc' ∧ kcGo t1 mt1 mk mv vs1 (ys.drop i) acc' ρ' = .ok accI ρI) ?_ ys.length
    ⟨0, H, rfl, J0, st0, ne0, Nat.zero_le _, F, ρ, acc, sub0, mid0, by rw [List.drop_zero]; exact run⟩
  rintro m se ⟨i, He, rfl, Je, ste, ne, ile, Fe, ρe, acc, sub, mid, rest⟩
  obtain ⟨w1, w2⟩ := wk Fe He i sub mid.sr.sub
  by_cases hlt : i < ys.length
  · obtain ⟨x, ex⟩ : ∃ x, ys[i] = x := ⟨_, rfl⟩
    obtain ⟨go, yl⟩ := w2 x (by rw [← ex]; simp [hlt])
    rw [List.drop_eq_getElem_cons hlt, ex] at rest
    simp only [kcGo] at rest
    have item := T.item Y rfl rfl rfl calm i pins se (L2.wipe σ8 vs1) He (fun _ _ => False) Je (far He ne) ste go
    refine thnF item fun r s6 ⟨u, hr, h6⟩ => ?_
    subst hr
    refine thnF h6 fun _ s7 ⟨v, H7, J7, r7, y7, st7, n7⟩ => ?_
    have J7' := J7.pinned (far H7 n7) (T.obj _ _ st7)
    obtain ⟨F7, al⟩ := yl v H7 y7
    have came : ∃ sx : SR C.K F7 H7 (L2.wipe σ8 vs1) (wipeR ρe vs1), Grow (own (L2.wipe σ8 vs1) (wipeR ρe vs1)) (own (L2.wipe σ8 vs1) (wipeR ρe vs1)) Fe He F7 H7 ∧ DV C.K F7 v x := by
      cases al with
      | asis h => exact ⟨mid.sr, Grow.refl, h⟩
      | tup hp h => exact ⟨mid.sr.laid hp, Grow.laid hp (mid.sr.sub.free hp), .tup (.inl (.inl upd_same)) (h.upd (mid.sr.sub.free hp))⟩
    obtain ⟨s7', g7, dx⟩ := came
    have mid7 := mid.on g7 s7'
    cases et : t1 x (wipeR ρe vs1) with
    | none => simp only [et] at rest; cases rest
    | some ρ8 =>
      simp only [et] at rest
      have pgr := pg.run _ s7 _ H7 v u (fun σ9 H8 => L2.wipe σ9 vs1 = L2.wipe σ8 vs1 ∧ KMid C σ0 ρ1 vs F1 H1 D σ9 ρ8 F7 H8 acc) J7' r7 (htg v x (L2.wipe σ8 vs1) (wipeR ρe vs1) ρ8 F7 H7 _ (by rw [wipe_length]; exact ln) s7' dx et fun σ9 sr9 o9 p9 => by
        have ew : L2.wipe σ9 vs1 = L2.wipe σ8 vs1 := by
          rw [← wipe_wipe σ8 vs1]
          exact wipe_ext p9.1 fun j hj q => p9.2 j (mem_outs (by rw [wipe_length, ln] at hj; exact hj) q)
        obtain ⟨L, h, tt⟩ := mid7.rows
        exact ⟨ew, sr9, mid7.gr.less o9, fun z => mid7.no (o9 D z), mid7.ft, L, h, tt⟩)
      rw [quiet] at pgr
      refine thnF pgr fun _ s8 ⟨σ9, H8, J8, ew, mid8⟩ => ?_
      have done : ∀ {u' : Shared} {H' F' : Hp} {ρ' : Rho} {acc' : List (PyData × PyData)}, Inv Y (pins ++ pinsAt fp s7.heap) σ9 H' u' → Same Ft F' → KMid C σ0 ρ1 vs F1 H1 D σ9 ρ' F' H' acc' → kcGo t1 mt1 mk mv vs1 (ys.drop (i + 1)) acc' ρ' = .ok accI ρI →
          ∃ m, m < ys.length - i ∧ ∃ j H', m = ys.length - j ∧ Inv Y pins (L2.wipe σ8 vs1) H' u' ∧ tn j u'.heap ∧ (∀ b ∈ fp, H' b = none) ∧ j ≤ ys.length ∧ ∃ F' ρ' acc', Same Ft F' ∧ KMid C σ0 ρ1 vs F1 H1 D (L2.wipe σ8 vs1) (wipeR ρ' vs1) F' H' acc' ∧ kcGo t1 mt1 mk mv vs1 (ys.drop j) acc' ρ' = .ok accI ρI := fun {u' H' F' ρ' acc'} I' sub' mid' rest' => by
        have pin' : ∀ b ∈ fp, ∀ o, s7.heap.get? b = some o → u'.heap.get? b = some o ∧ H' b = none := fun b hb o e =>
          let z := I'.pin (b, o) (List.mem_append_right _ (List.mem_append_right _ (mem_pinsAt hb e)))
          ⟨z.1, z.2.1⟩
        have less : ∀ {b : Addr}, own (L2.wipe σ8 vs1) (wipeR ρ' vs1) b → own σ9 ρ' b := fun {b} z => by
          rw [← ew] at z
          exact (own.wipes z).1
        have back : SR C.K F' H' (L2.wipe σ8 vs1) (wipeR ρ' vs1) := by
          have z := mid'.sr.wipes vs1
          rw [ew] at z
          exact z
        refine ⟨ys.length - (i + 1), by omega, i + 1, H', rfl, (I'.unpinned (pins := pins)).weak (by rw [← ew, wipe_length]) (fun j v e => ?_), T.keep _ _ _ st7 fun b hb o e => (pin' b hb o e).1, fun b hb => ?_, by omega, F', ρ', acc', sub', ⟨back, mid'.gr.less fun b => less, fun z => mid'.no (less z), mid'.ft, mid'.rows⟩, rest'⟩
        · rw [← ew] at e
          exact (wipe_some e).1
        · obtain ⟨o, e, _⟩ := T.obj _ _ st7 b hb
          exact (pin' b hb o e).2
      have sub7 := sub.trans g7.ext
      cases emt : mt1 ρ8 with
      | bad => simp only [emt] at rest; cases rest
      | ex y r => simp only [emt] at rest; cases rest
      | ok yes ρ9 =>
        simp only [emt] at rest
        have ptr := pt.run _ s8 σ9 H8 (fun b H9 => b = yes ∧ ∃ F9, Same F7 F9 ∧ KMid C σ0 ρ1 vs F1 H1 D σ9 ρ9 F9 H9 acc) J8 ⟨F7, ρ8, mid8.sr, by rw [emt]; exact fun F9 H9 b g9 s9 eb => ⟨eb, F9, g9.ext, mid8.on g9 s9⟩⟩
        rw [quiet] at ptr
        refine thnF ptr fun b s9 ⟨H9, J9, eb, F9, sub9, mid9⟩ => ?_
        subst eb
        cases b with
        | false =>
          simp only [Bool.false_eq_true, if_false] at rest ⊢
          exact done J9 (sub7.trans sub9) mid9 rest
        | true =>
          simp only [if_true] at rest ⊢
          cases emk : mk ρ9 with
          | bad => simp only [emk] at rest; cases rest
          | ex y r => simp only [emk] at rest; cases rest
          | ok k ρ10 =>
            simp only [emk] at rest
            have pkr := pk.run _ s9 σ9 H9 (fun y H10 => ∃ F10, Same F9 F10 ∧ KMid C σ0 ρ1 vs F1 H1 D σ9 ρ10 F10 H10 acc ∧ DV C.K F10 y k) J9 ⟨F9, ρ9, mid9.sr, by rw [emk]; exact fun F10 H10 y g10 s10 dk => ⟨F10, g10.ext, mid9.on g10 s10, dk⟩⟩
            rw [quiet] at pkr
            refine thnF pkr fun z s10 ⟨y, H10, J10, rz, F10, sub10, mid10, dk⟩ => ?_
            cases emv : mv ρ10 with
            | bad => simp only [emv] at rest; cases rest
            | ex y r => simp only [emv] at rest; cases rest
            | ok d ρ11 =>
              simp only [emv] at rest
              split at rest
              · rename_i cond
                have pvr := pv.run _ s10 σ9 H10 (fun y2 H11 => ∃ F11, Same F10 F11 ∧ KMid C σ0 ρ1 vs F1 H1 D σ9 ρ11 F11 H11 acc ∧ DV C.K F11 y k ∧ DV C.K F11 y2 d) J10 ⟨F10, ρ10, mid10.sr, by rw [emv]; exact fun F11 H11 y2 g11 s11 dv => ⟨F11, g11.ext, mid10.on g11 s11, dk.mono g11.ext, dv⟩⟩
                rw [quiet] at pvr
                refine thnF pvr fun z2 s11 ⟨y2, H11, J11, rz2, F11, sub11, mid11, dk, dv⟩ => ?_
                obtain ⟨b, rfl⟩ := dv_tup dk cond.1
                obtain rfl : z = .ref b := rz
                obtain ⟨L, hH, tt⟩ := mid11.rows
                have put := mid11.put hD cond.1 dk dv hH tt
                have subH := mid11.sr.sub
                rw [← hw] at hH put
                rw [← hK] at tt dk
                exact kd_dset (by omega) J11 hH subH tt dk cond.1 cond.2 rz2 fun s12 J12 => done J12 (sub7.trans (sub9.trans (sub10.trans sub11))) put rest
              · cases rest
  · have ei : i = ys.length := by omega
    subst ei
    rw [List.drop_length] at rest
    simp only [kcGo, M.ret] at rest
    cases rest
    have td := T.done Y rfl rfl rfl calm _ pins se (L2.wipe σ8 vs1) He (fun _ _ => False) Je (far He ne) ste (w1 (Nat.le_refl _))
    refine thnF td fun r s6 ⟨hr, J6⟩ => ?_
    subst hr
    exact fin s6 He Fe _ J6 sub mid rfl
def KNext2 (C : Ct) (σ0 : L2.St) (ρ1 : Rho) (vs : List Nat) (F1 H1 : Hp) (D : Addr) (t : Tgt) (mt : M Bool) (src1 : M (List PyData)) (t1 : Tgt) (mt1 : M Bool) (mk mv : M PyData) (vs1 : List Nat) (all : List PyData) (accF : List (PyData × PyData)) (ρF : Rho) (i : Nat) (H : Hp) : Prop :=
  i ≤ all.length ∧ ∃ F ρ acc, KMid C σ0 ρ1 vs F1 H1 D σ0 (wipeR ρ vs) F H acc ∧ kc2Go t mt src1 t1 mt1 mk mv vs vs1 (all.drop i) acc ρ = .ok accF ρF
theorem kdc2_core {pins : List (Addr × Obj)} {s : Shared} {σ : L2.St} {H : Hp} {Q : VK} {use : Option (Value → Sem Unit)} {Qf : Value → Shared → Prop} {pos2 : Pos} {scope : Scope} {names : List (Str × Nat)} {g g1 : TG} {t t1 : Tgt} {src src1 : M (List PyData)} {mt mt1 : M Bool} {mk mv : M PyData} {n : Nat} {vs1 : List Nat} (hu : X.A.units + 9 < cLine) (calm : X.calm = true) (nd : X.N.Nodup) (walk : PI X tA iA (tI C src)) (ok : BlkOk X.N X.env.scope scope names)
    (hg : ∀ (s : Shared) (H : Hp) (D : Addr) (cl : List (Str × Addr)) (fp : List Addr), PG (X.blk s H scope (compEnvC scope cl D X.env) fp) tA g) (htg : TgOk C.quiet (outs n (names.map (·.2))) n g t)
    (ht : ∀ (s : Shared) (H : Hp) (D : Addr) (cl : List (Str × Addr)) (fp : List Addr), PTs (X.blk s H scope (compEnvC scope cl D X.env) fp) fA (tT C.quiet mt))
    (hi1 : ∀ (s : Shared) (H : Hp) (D : Addr) (cl : List (Str × Addr)) (fp : List Addr), PI (X.blk s H scope (compEnvC scope cl D X.env) fp) tB iB (tI C.quiet src1))
    (hg1 : ∀ (s : Shared) (H : Hp) (D : Addr) (cl : List (Str × Addr)) (fp : List Addr), PG (X.blk s H scope (compEnvC scope cl D X.env) fp) tB g1) (htg1 : TgOk C.quiet (outs n vs1) n g1 t1)
    (ht1 : ∀ (s : Shared) (H : Hp) (D : Addr) (cl : List (Str × Addr)) (fp : List Addr), PTs (X.blk s H scope (compEnvC scope cl D X.env) fp) fB (tT C.quiet mt1))
    (hk : ∀ (s : Shared) (H : Hp) (D : Addr) (cl : List (Str × Addr)) (fp : List Addr), PE (X.blk s H scope (compEnvC scope cl D X.env) fp) kx (tD C.quiet mk))
    (hv : ∀ (s : Shared) (H : Hp) (D : Addr) (cl : List (Str × Addr)) (fp : List Addr), PE (X.blk s H scope (compEnvC scope cl D X.env) fp) vx (tD C.quiet mv)) (hvv : ∀ i ∈ vs1, i ∈ names.map (·.2) := by decide) (hL : X.N.length = n := by rfl) (hs : ∀ x, foldedSetIterable iA X.env x = pure x := by intro _; rfl) (hs1 : ∀ env x, foldedSetIterable iB env x = pure x := by intro _ _; rfl) (hK : X.KW = C.K := by rfl) (J : Inv X pins σ H s) (h : tO C (mKComp2 src t mt src1 t1 mt1 mk mv (names.map (·.2)) vs1) σ H Q)
    (hRR : ∀ D Cc u m H1, Inv X pins σ H1 u → Q (.ref D) H1 → u.heap.Ns Cc m → FpOk X pins H1 Cc → compPost (model X.prog X.w) X.A X.xe use Qf (.ref D) Cc (.ok .next) u) :
    wpAny (model X.prog X.w) X.A (comprehension (.DictComp kx vx [⟨tA, iA, fA, 0⟩, ⟨tB, iB, fB, 0⟩] scope pos) scope X.env pos2 newDict false (eval iA X.env) use) Qf X.xe s := by
  generalize hvs : names.map (·.2) = vs at htg hvv h
  obtain ⟨F, ρ, sr, p⟩ := h
  have ln : σ.length = n := by rw [J.len, hL]
  have hw : X.w = C.K.w := congrArg Kw.w hK
  -- the whole run, told ahead
  have start : tI C src σ H fun It H1 => ∃ xs ρ1 F1 accF ρF, SR C.K F1 H1 σ ρ1 ∧ WalkD C.K F1 It xs ∧ kc2Go t mt src1 t1 mt1 mk mv vs vs1 xs [] ρ1 = .ok accF ρF ∧ ρF.length = ρ1.length ∧ PostE C (rO C.K) σ ρ1 F1 H1 Q (.ok (.kd accF) (restR ρ1 ρF vs)) := by
    refine ⟨F, ρ, sr, p.part fun xs ρ1 F1 H1 It e1 q1 g1 s1 wk => ?_⟩
    have q1 := q1.on stb_O g1
    cases e : kc2Go t mt src1 t1 mt1 mk mv vs vs1 xs [] ρ1 with
    | ok accF ρF =>
      simp only [e] at q1
      split at q1
      · rename_i hz
        exact ⟨xs, ρ1, F1, accF, ρF, s1, wk, e, hz, q1⟩
      · exact q1.elim
    | _ => simp only [e] at q1; exact q1.elim
  have cells : ∀ y ∈ scope.names, y.2 = .free → ∃ c, X.env.cells.lookup y.1 = some c := fun y hy e => (ok.free y hy e).elim (fun z => J.ok.has _ (.inl z)) fun z => J.ok.has _ (.inr z)
  refine wpAny_comprehension_free (use := use) rfl hs (closure_ok cells) ok.kind (fun y hy e => by rw [ok.uniq y hy, e]) (thn (walk.run pins s σ H _ J start) fun xv sa ha => thn ha fun iv sb got => ?_)
  obtain ⟨it, fp, tn, It, Hb, rfl, Jb, T, st0, fpOk, xs, ρ1, F1, accF, ρF, sr1, wk, run, lenF, post⟩ := got
  refine wpAny_newObj_type (newEnv_comp ?_)
  generalize eD : sb.heap.objs.size = D
  have HbD : Hb D = none := Jb.hok.fresh (Nat.le_of_eq eD)
  have FD : F1 D = none := sr1.sub.free HbD
  -- the empty dict is laid
  generalize esc : ({ sb with heap := sb.heap.push { cls := .type "dict", data := .dict #[] } } : Shared) = sc
  generalize eHc : upd Hb D (KO X.w D []) = Hc
  have Jc : Inv X pins σ Hc sc := by
    rw [← esc, ← eHc]
    refine Jb.laid (t' := sb.toks) (fun b o e => Heap.get?_push_of_some _ e) (Nat.le_of_eq eD) ?_
    rw [← eD]
    exact kd_new (P := X.prog) (xs := []) (beq_eq_false_iff_ne.mpr (Ne.symm (Nat.ne_of_lt Jb.big))) (Nat.zero_le _) .nil (Heap.DictOfH.new sb.heap)
  have esh : sc.heap = sb.heap.push { cls := .type "dict", data := .dict #[] } := by rw [← esc]
  have under : ∀ b ∈ fp, b < sb.heap.objs.size := fun b hb => let ⟨o, e, _⟩ := T.obj _ _ st0 b hb; Heap.lt_size e
  have fpc : ∀ b ∈ fp, FpOk X pins Hc b ∧ b < sc.heap.objs.size := fun b hb => by
    have lo := under b hb
    refine ⟨⟨?_, (fpOk b hb).2⟩, by rw [esh, Heap.size_push]; exact Nat.lt_succ_of_lt lo⟩
    rw [← eHc, upd_ne (by rw [← eD]; exact Nat.ne_of_lt lo)]
    exact (fpOk b hb).1
  have stc : tn 0 sc.heap := T.keep _ _ _ st0 fun b _ o e => by rw [esh]; exact Heap.get?_push_of_some _ e
  have Jd := block_start Jc ok nd fpc
  generalize ecl : cellsFrom (sc.heap.objs.size + 1) scope.names (cloFrom X.env.cells scope.names []) = cl at Jd ⊢
  have pg := hg sc Hc sc.heap.objs.size cl fp
  have pt := ht sc Hc sc.heap.objs.size cl fp
  have pk := hk sc Hc sc.heap.objs.size cl fp
  have pi := hi1 sc Hc sc.heap.objs.size cl fp
  have pg1 := hg1 sc Hc sc.heap.objs.size cl fp
  have pt1 := ht1 sc Hc sc.heap.objs.size cl fp
  have pv := hv sc Hc sc.heap.objs.size cl fp
  have bkw : (X.blk sc Hc scope (compEnvC scope cl sc.heap.objs.size X.env) fp).KW = C.K := hK
  rw [hvs] at Jd
  show codeAny _ _ (.compStart (.DictComp kx vx [⟨tA, iA, fA, 0⟩, ⟨tB, iB, fB, 0⟩] scope pos) 0 (.ref it) (.ref D) (compEnvC scope cl sc.heap.objs.size X.env)) (compPost _ X.A X.xe _ _ (.ref D) sc.heap.objs.size) { sc with heap := pushCells (sc.heap.push { cls := .type "dict", data := .dict #[] }) scope.names }
  generalize ece : compEnvC scope cl sc.heap.objs.size X.env = ce at Jd pg pt pk pv pi pg1 pt1 bkw ⊢
  have ceL : ce.locals = sc.heap.objs.size := by rw [← ece]; rfl
  generalize esd : ({ sc with heap := pushCells (sc.heap.push { cls := .type "dict", data := .dict #[] }) scope.names } : Shared) = sd at Jd ⊢
  have std : tn 0 sd.heap := T.keep _ _ _ stc fun b _ o e => by rw [← esd]; exact pushCells_keeps _ _ _ _ (Heap.get?_push_of_some _ e)
  have idle : ∀ {σ' : L2.St} {H' : Hp} {s' : Shared}, Inv (X.blk sc Hc scope ce fp) [] σ' H' s' → (∀ b ∈ fp, H' b = none) → ∀ b ∈ fp, FpOk (X.blk sc Hc scope ce fp) [] H' b := fun {σ' H' s'} I' nn b hb =>
    ⟨nn b hb, (I'.ok.exf b hb).1, I'.ok.exfs b hb, .inl hb, fun x c e => (I'.ok.exf b hb).2 x c e, fun q hq => by cases hq⟩
  have mid0 : KMid C (wipe σ vs) ρ1 vs F1 Hb D (wipe σ vs) (wipeR ρ1 vs) F1 Hc [] := by
    have no : ¬ own (wipe σ vs) (wipeR ρ1 vs) D := fun z => by
      obtain ⟨_, u, hu⟩ := own.at (sr1.wipes vs) z
      rw [HbD] at hu; cases hu
    rw [← eHc, hw]
    exact ⟨(sr1.fresh HbD).wipes vs, Grow.fresh HbD, no, FD, [], upd_same, .nil⟩
  have loop : codeAny (model X.prog X.w) X.A (.compLoop (.DictComp kx vx [⟨tA, iA, fA, 0⟩, ⟨tB, iB, fB, 0⟩] scope pos) 0 (.ref it) (.ref D) ce) (compPost (model X.prog X.w) X.A X.xe use Qf (.ref D) sc.heap.objs.size) sd := by
    refine loopA (hs1 _) (fun m s' => ∃ i H', m = xs.length - i ∧ Inv (X.blk sc Hc scope ce fp) [] (wipe σ vs) H' s' ∧ tn i s'.heap ∧ (∀ b ∈ fp, H' b = none) ∧ KNext2 C (wipe σ vs) ρ1 vs F1 Hb D t mt src1 t1 mt1 mk mv vs1 xs accF ρF i H') ?_ xs.length
      ⟨0, Hc, rfl, Jd, std, fun b hb => (fpc b hb).1.1, Nat.zero_le _, F1, ρ1, [], mid0, by rw [List.drop_zero]; exact run⟩
    rintro m se ⟨i, He, rfl, Je, ste, ne, ile, Fe, ρe, acc, mid, rest⟩
    obtain ⟨w1, w2⟩ := wk Fe He i mid.gr.ext mid.sr.sub
    by_cases hlt : i < xs.length
    · obtain ⟨x, ex⟩ : ∃ x, xs[i] = x := ⟨_, rfl⟩
      obtain ⟨go, yl⟩ := w2 x (by rw [← ex]; simp [hlt])
      rw [List.drop_eq_getElem_cons hlt, ex] at rest
      simp only [kc2Go] at rest
      refine thnF (T.item (X.blk sc Hc scope ce fp) rfl rfl rfl calm i [] se _ He (fun _ _ => False) Je (idle Je ne) ste go) fun r s6 ⟨u, hr, h6⟩ => ?_
      subst hr
      refine thnF h6 fun _ s7 ⟨v, H7, J7, r7, y7, st7, n7⟩ => ?_
      have J7' := J7.pinned (idle J7 n7) (T.obj _ _ st7)
      obtain ⟨F7, al⟩ := yl v H7 y7
      -- the thing that came
      have came : ∃ sx : SR C.K F7 H7 (wipe σ vs) (wipeR ρe vs), Grow (own (wipe σ vs) (wipeR ρe vs)) (own (wipe σ vs) (wipeR ρe vs)) Fe He F7 H7 ∧ DV C.K F7 v x := by
        cases al with
        | asis h => exact ⟨mid.sr, Grow.refl, h⟩
        | tup hp h => exact ⟨mid.sr.laid hp, Grow.laid hp (mid.sr.sub.free hp), .tup (.inl (.inl upd_same)) (h.upd (mid.sr.sub.free hp))⟩
      obtain ⟨s7', g7, dx⟩ := came
      have mid7 := mid.on g7 s7'
      cases et : t x (wipeR ρe vs) with
      | none => simp only [et] at rest; cases rest
      | some ρ8 =>
        simp only [et] at rest
        refine thnF (pg.run _ s7 _ H7 v u (fun σ8 H8 => wipe σ8 vs = wipe σ vs ∧ KMid C (wipe σ vs) ρ1 vs F1 Hb D σ8 ρ8 F7 H8 acc) J7' r7 (htg v x (wipe σ vs) (wipeR ρe vs) ρ8 F7 H7 _ (by rw [wipe_length]; exact ln) s7' dx et fun σ8 sr8 o8 p8 => ?_)) fun _ s8 ⟨σ8, H8, J8, ew, mid8⟩ => ?_
        · have ew : wipe σ8 vs = wipe σ vs := by
            rw [← wipe_wipe σ vs]
            exact wipe_ext p8.1 fun j hj q => p8.2 j (mem_outs (by rw [wipe_length, ln] at hj; exact hj) q)
          obtain ⟨L, h, tt⟩ := mid7.rows
          exact ⟨ew, sr8, mid7.gr.less o8, fun z => mid7.no (o8 D z), mid7.ft, L, h, tt⟩
        · -- the turn's end
          have fin : ∀ {s' : Shared} {H' F' : Hp} {σ9 : L2.St} {ρs ρ' : Rho} {acc' : List (PyData × PyData)}, wipe σ9 vs = wipe σ vs → wipeR ρs vs = wipeR ρ' vs → Inv (X.blk sc Hc scope ce fp) ([] ++ pinsAt fp s7.heap) σ9 H' s' → KMid C (wipe σ vs) ρ1 vs F1 Hb D σ9 ρs F' H' acc' →
              kc2Go t mt src1 t1 mt1 mk mv vs vs1 (xs.drop (i + 1)) acc' ρ' = .ok accF ρF →
              ∃ m, m < xs.length - i ∧ ∃ j H', m = xs.length - j ∧ Inv (X.blk sc Hc scope ce fp) [] (wipe σ vs) H' s' ∧ tn j s'.heap ∧ (∀ b ∈ fp, H' b = none) ∧ KNext2 C (wipe σ vs) ρ1 vs F1 Hb D t mt src1 t1 mt1 mk mv vs1 xs accF ρF j H' := fun {s' H' F' σ9 ρs ρ' acc'} ew er I' mid' rest' => by
            have pin' : ∀ b ∈ fp, ∀ o, s7.heap.get? b = some o → s'.heap.get? b = some o ∧ H' b = none := fun b hb o e =>
              let z := I'.pin (b, o) (List.mem_append_right _ (List.mem_append_right _ (mem_pinsAt hb e)))
              ⟨z.1, z.2.1⟩
            have less : ∀ {b : Addr}, own (wipe σ vs) (wipeR ρ' vs) b → own σ9 ρs b := fun {b} z => by
              rw [← ew, ← er] at z
              exact (own.wipes z).1
            have back : SR C.K F' H' (wipe σ vs) (wipeR ρ' vs) := by
              have z := mid'.sr.wipes vs
              rw [ew, er] at z
              exact z
            refine ⟨xs.length - (i + 1), by omega, i + 1, H', rfl, (I'.unpinned (pins := [])).weak (by rw [← ew, wipe_length]) (fun j v e => ?_), T.keep _ _ _ st7 fun b hb o e => (pin' b hb o e).1, fun b hb => ?_, by omega, F', ρ', acc', ⟨back, mid'.gr.less fun b => less, fun z => mid'.no (less z), mid'.ft, mid'.rows⟩, rest'⟩
            · rw [← ew] at e
              exact (wipe_some e).1
            · obtain ⟨o, e, _⟩ := T.obj _ _ st7 b hb
              exact (pin' b hb o e).2
          cases emt : mt ρ8 with
          | bad => simp only [emt] at rest; cases rest
          | ex y r => simp only [emt] at rest; cases rest
          | ok yes ρ9 =>
            simp only [emt] at rest
            refine thnF (pt.run _ s8 σ8 H8 (fun b H9 => b = yes ∧ ∃ F9, KMid C (wipe σ vs) ρ1 vs F1 Hb D σ8 ρ9 F9 H9 acc) J8 ⟨F7, ρ8, mid8.sr, by rw [emt]; exact fun F9 H9 b g9 s9 eb => ⟨eb, F9, mid8.on g9 s9⟩⟩) fun b s9 ⟨H9, J9, eb, F9, mid9⟩ => ?_
            subst eb
            cases b with
            | false =>
              simp only [Bool.false_eq_true, if_false] at rest ⊢
              exact fin ew rfl J9 mid9 rest
            | true =>
              simp only [if_true] at rest ⊢
              cases es1 : src1 ρ9 with
              | bad => simp only [es1] at rest; cases rest
              | ex y r => simp only [es1] at rest; cases rest
              | ok ys ρ10 =>
                simp only [es1] at rest
                cases ein : kcGo t1 mt1 mk mv vs1 ys acc ρ10 with
                | bad => simp only [ein] at rest; cases rest
                | ex y r => simp only [ein] at rest; cases rest
                | ok accI ρI =>
                  simp only [ein] at rest
                  refine thnF (pi.run _ s9 σ8 H9 (fun It1 H10 => ∃ F10, KMid C (wipe σ vs) ρ1 vs F1 Hb D σ8 ρ10 F10 H10 acc ∧ WalkD C.K F10 It1 ys) J9 ⟨F9, ρ9, mid9.sr, by rw [es1]; exact fun F10 H10 It1 g10 s10 wk => ⟨F10, mid9.on g10 s10, wk⟩⟩) fun xv sa ha => thnF ha fun iv sb got => ?_
                  obtain ⟨it1, fp1, tn1, It1, H10, rfl, J10, T1, st1, fpOk1, F10, mid10, wk1⟩ := got
                  have midW : KMid C (wipe σ vs) ρ1 vs F1 Hb D (wipe σ8 vs1) (wipeR ρ10 vs1) F10 H10 acc := ⟨mid10.sr.wipes vs1, mid10.gr.less fun b z => (own.wipes z).1, fun z => mid10.no (own.wipes z).1, mid10.ft, mid10.rows⟩
                  have JW : Inv (X.blk sc Hc scope ce fp) ([] ++ pinsAt fp s7.heap) (wipe σ8 vs1) H10 sb := J10.weak (by rw [wipe_length]) (fun j v e => (wipe_some e).1)
                  have ln8 : σ8.length = n := by
                    have z := congrArg List.length ew
                    rw [wipe_length, wipe_length] at z
                    rw [z]; exact ln
                  have loop1 := kc_in (C := C) (Y := X.blk sc Hc scope ce fp) (scope := scope) (pos := pos) (tA := tA) (iA := iA) (fA := fA) (iB := iB) (σ0 := wipe σ vs) (ρ1 := ρ1) (vs := vs) (F1 := F1) (H1 := Hb) (D := D) (it := it1) (kx := kx) (vx := vx) (R := fun r u7 => match r with
                      | .ok _ => ∃ m, m < xs.length - i ∧ ∃ j H', m = xs.length - j ∧ Inv (X.blk sc Hc scope ce fp) [] (wipe σ vs) H' u7 ∧ tn j u7.heap ∧ (∀ b ∈ fp, H' b = none) ∧ KNext2 C (wipe σ vs) ρ1 vs F1 Hb D t mt src1 t1 mt1 mk mv vs1 xs accF ρF j H'
                      | .error _ => False) (accI := accI) (ρI := ρI) hu calm rfl bkw ln8 HbD pg1 htg1 pt1 pk pv T1 wk1 (fun H hn b hb => ⟨hn b hb, (fpOk1 b hb).2⟩)
                    (fun u H F ρ Ju _ midu eρ => by
                      subst eρ
                      exact fin (by rw [wipe_sub hvv]; exact ew) (wipeR_sub hvv) Ju midu rest) sb H10 F10 ρ10 acc JW st1 (fun b hb => (fpOk1 b hb).1) (Same.refl _) midW ein
                  exact startB loop1 (T1.self X.A 0 _ _ _ st1 loop1)
    · have ei : i = xs.length := by omega
      subst ei
      rw [List.drop_length] at rest
      simp only [kc2Go, M.ret] at rest
      cases rest
      refine thnF (T.done (X.blk sc Hc scope ce fp) rfl rfl rfl calm _ [] se _ He (fun _ _ => False) Je (idle Je ne) ste (w1 (Nat.le_refl _))) fun r s6 ⟨hr, J6⟩ => ?_
      subst hr
      -- back in the def
      have J7 : Inv X pins σ He s6 := Jc.call' (ch := fp) J6.os J6.base J6.hok J6.bare fun b hb => ⟨(fpc b hb).1.2.2.2.1, (fpc b hb).1.2.1, (fpc b hb).1.2.2.2.2.1, (fpc b hb).1.2.2.2.2.2⟩
      have nC : He sc.heap.objs.size = none := by
        have z : He ce.locals = none := J6.free
        rw [ceL] at z
        exact z
      obtain ⟨m, hn, _⟩ := J6.loc
      have hn : s6.heap.Ns ce.locals m := hn
      rw [ceL] at hn
      refine hRR D sc.heap.objs.size s6 m He J7 ?_ hn (Jc.fpOk (Nat.le_refl _) nC)
      obtain ⟨sf, gf⟩ := sr1.rest mid.sr lenF mid.gr
      obtain ⟨L, hH, tt⟩ := mid.rows
      refine post Fe He (.ref D) gf sf ⟨⟨D, L, rfl, mid.ft, hH, tt⟩, fun _ a ea => ?_⟩
      cases ea
      refine ⟨fun z => ?_, .inl HbD⟩
      rcases gf.ows D z with y | y
      · obtain ⟨_, u, hu⟩ := own.at sr1 y
        rw [HbD] at hu; cases hu
      · obtain ⟨j, o, e1, e2, e3⟩ := z
        by_cases q : j ∈ vs
        · obtain ⟨_, u, hu⟩ := own.at sr1 ⟨j, o, restR_in q e1, e2, e3⟩
          rw [HbD] at hu; cases hu
        · rw [restR_out q] at e1
          exact mid.no ⟨j, o, by rw [wipeR_out q]; exact e1, e2, by rw [wipe_out q]; exact e3⟩
  exact codeAny_compStart_dict loop (T.self X.A 0 _ _ _ std loop)
theorem o_kdc2 {scope : Scope} {names : List (Str × Nat)} {g g1 : TG} {t t1 : Tgt} {src src1 : M (List PyData)} {mt mt1 : M Bool} {mk mv : M PyData} {n : Nat} {vs1 : List Nat} (hu : X.A.units + 9 < cLine) (calm : X.calm = true) (nd : X.N.Nodup) (walk : PI X tA iA (tI C src)) (ok : BlkOk X.N X.env.scope scope names)
    (hg : ∀ (s : Shared) (H : Hp) (D : Addr) (cl : List (Str × Addr)) (fp : List Addr), PG (X.blk s H scope (compEnvC scope cl D X.env) fp) tA g) (htg : TgOk C.quiet (outs n (names.map (·.2))) n g t)
    (ht : ∀ (s : Shared) (H : Hp) (D : Addr) (cl : List (Str × Addr)) (fp : List Addr), PTs (X.blk s H scope (compEnvC scope cl D X.env) fp) fA (tT C.quiet mt))
    (hi1 : ∀ (s : Shared) (H : Hp) (D : Addr) (cl : List (Str × Addr)) (fp : List Addr), PI (X.blk s H scope (compEnvC scope cl D X.env) fp) tB iB (tI C.quiet src1))
    (hg1 : ∀ (s : Shared) (H : Hp) (D : Addr) (cl : List (Str × Addr)) (fp : List Addr), PG (X.blk s H scope (compEnvC scope cl D X.env) fp) tB g1) (htg1 : TgOk C.quiet (outs n vs1) n g1 t1)
    (ht1 : ∀ (s : Shared) (H : Hp) (D : Addr) (cl : List (Str × Addr)) (fp : List Addr), PTs (X.blk s H scope (compEnvC scope cl D X.env) fp) fB (tT C.quiet mt1))
    (hk : ∀ (s : Shared) (H : Hp) (D : Addr) (cl : List (Str × Addr)) (fp : List Addr), PE (X.blk s H scope (compEnvC scope cl D X.env) fp) kx (tD C.quiet mk))
    (hv : ∀ (s : Shared) (H : Hp) (D : Addr) (cl : List (Str × Addr)) (fp : List Addr), PE (X.blk s H scope (compEnvC scope cl D X.env) fp) vx (tD C.quiet mv)) (hvv : ∀ i ∈ vs1, i ∈ names.map (·.2) := by decide) (hL : X.N.length = n := by rfl) (hs : ∀ x, foldedSetIterable iA X.env x = pure x := by intro _; rfl) (hs1 : ∀ env x, foldedSetIterable iB env x = pure x := by intro _ _; rfl) (hK : X.KW = C.K := by rfl) :
    PE X (.DictComp kx vx [⟨tA, iA, fA, 0⟩, ⟨tB, iB, fB, 0⟩] scope pos) (tO C (mKComp2 src t mt src1 t1 mt1 mk mv (names.map (·.2)) vs1)) := by
  refine ⟨fun pins s σ H Q J h => ?_⟩
  rw [arm_eval_DictComp]
  refine kdc2_core hu calm nd walk ok hg htg ht hi1 hg1 htg1 ht1 hk hv hvv hL hs hs1 hK J h fun D Cc u m H1 I' q hn f => ⟨m, hn, fun h2 same => ?_⟩
  obtain ⟨f0, f1, f2, f3, f4, f5⟩ := f
  exact ⟨.ref D, H1, I'.turned (t' := u.toks) (fun b o hb e => (same.2 b hb).trans e) f0 f1 f3 f4 f5, rfl, q⟩
theorem s_setDC2 {P : List Nat} {i : Nat} {y : Str} {py spos : Pos} {scope : Scope} {names : List (Str × Nat)} {g g1 : TG} {t t1 : Tgt} {src src1 : M (List PyData)} {mt mt1 : M Bool} {mk mv : M PyData} {n : Nat} {vs1 : List Nat} (hu : X.A.units + 9 < cLine) (calm : X.calm = true) (nd : X.N.Nodup) (walk : PI X tA iA (tI C src)) (ok : BlkOk X.N X.env.scope scope names)
    (hg : ∀ (s : Shared) (H : Hp) (D : Addr) (cl : List (Str × Addr)) (fp : List Addr), PG (X.blk s H scope (compEnvC scope cl D X.env) fp) tA g) (htg : TgOk C.quiet (outs n (names.map (·.2))) n g t)
    (ht : ∀ (s : Shared) (H : Hp) (D : Addr) (cl : List (Str × Addr)) (fp : List Addr), PTs (X.blk s H scope (compEnvC scope cl D X.env) fp) fA (tT C.quiet mt))
    (hi1 : ∀ (s : Shared) (H : Hp) (D : Addr) (cl : List (Str × Addr)) (fp : List Addr), PI (X.blk s H scope (compEnvC scope cl D X.env) fp) tB iB (tI C.quiet src1))
    (hg1 : ∀ (s : Shared) (H : Hp) (D : Addr) (cl : List (Str × Addr)) (fp : List Addr), PG (X.blk s H scope (compEnvC scope cl D X.env) fp) tB g1) (htg1 : TgOk C.quiet (outs n vs1) n g1 t1)
    (ht1 : ∀ (s : Shared) (H : Hp) (D : Addr) (cl : List (Str × Addr)) (fp : List Addr), PTs (X.blk s H scope (compEnvC scope cl D X.env) fp) fB (tT C.quiet mt1))
    (hk : ∀ (s : Shared) (H : Hp) (D : Addr) (cl : List (Str × Addr)) (fp : List Addr), PE (X.blk s H scope (compEnvC scope cl D X.env) fp) kx (tD C.quiet mk))
    (hv : ∀ (s : Shared) (H : Hp) (D : Addr) (cl : List (Str × Addr)) (fp : List Addr), PE (X.blk s H scope (compEnvC scope cl D X.env) fp) vx (tD C.quiet mv)) (hvv : ∀ i ∈ vs1, i ∈ names.map (·.2) := by decide) (hL : X.N.length = n := by rfl) (hs : ∀ x, foldedSetIterable iA X.env x = pure x := by intro _; rfl) (hs1 : ∀ env x, foldedSetIterable iB env x = pure x := by intro _ _; rfl) (hK : X.KW = C.K := by rfl) (hy : X.N[i]? = some y) (hyl : X.env.scope.names.lookup y = some .local)
    (hsw : swapsWith (.DictComp kx vx [⟨tA, iA, fA, 0⟩, ⟨tB, iB, fB, 0⟩] scope pos) (some (.Name y py)) spos.line X.env = pure true) (hP : i ∉ P := by decide) :
    PS X (.Assign [.Name y py] (.DictComp kx vx [⟨tA, iA, fA, 0⟩, ⟨tB, iB, fB, 0⟩] scope pos) spos) (tS C P (sSet i (mKComp2 src t mt src1 t1 mt1 mk mv (names.map (·.2)) vs1))) := by
  refine ⟨fun pins s σ H E J ⟨F, ρ, sr, p⟩ => ?_⟩
  have h := PostS.set p (by rw [J.len]; exact (List.getElem?_eq_some_iff.mp hy).1) hP
  rw [exec_Assign_Name_used _ _ _ _ hsw]
  refine wpAny_bind (wpAny_standAt (wpAny_bind ?_))
  show wpAny _ X.A (comprehension (.DictComp kx vx [⟨tA, iA, fA, 0⟩, ⟨tB, iB, fB, 0⟩] scope pos) scope X.env (firstIterPos [⟨tA, iA, fA, 0⟩, ⟨tB, iB, fB, 0⟩] pos) newDict false (eval iA X.env) (some (assign (.Name y py) X.env)) >>= fun _ => pure ()) _ _ s
  refine wpAny_bind (thn (kdc2_core (Qf := fun _ u => SP X pins E .next u) hu calm nd walk ok hg htg ht hi1 hg1 htg1 ht1 hk hv hvv hL hs hs1 hK J ⟨F, ρ, sr, h⟩ fun D Cc u m H1 I' q hn f => ?_) fun _ u hq => wpAny_pure (wpAny_pure hq))
  show wpAny _ _ (assign (.Name y py) X.env (.ref D)) _ _ _
  refine wpAny_assign_Name (store_ok2 (v := V.ref D) I' nd hy (.inl hyl) rfl (fun u2 I2 ⟨a, sb, ha⟩ => ?_) (.inr hyl))
  obtain ⟨f0, f1, f2, f3, f4, f5⟩ := f
  have apart : Cc ≠ a := by
    rcases ha with z | z
    · rw [z]; exact f1
    · exact fun e => f4 y a z e.symm
  exact ⟨m, hn.sameBut sb apart, fun h3 sb3 => ⟨_, H1, I2.turned (t' := u2.toks) (fun b o hb e => (sb3.2 b hb).trans e) f0 f1 f3 f4 f5, q⟩⟩
end
end Eg
namespace Eg
open PySem L2 PySem.W PySem.SeqAt
section
variable {α β : Type} {src src1 : M (List PyData)} {t t1 : Tgt} {mk mv : M PyData} {vs vs1 : List Nat} {ρ ρ0 : Rho}
theorem v_kcomp2 (src : M (List PyData)) (t : Tgt) (mt : M Bool) (src1 : M (List PyData)) (t1 : Tgt) (mt1 : M Bool) (mk mv : M PyData) (vs vs1 : List Nat) : mKComp2 src t mt src1 t1 mt1 mk mv vs vs1 ρ = (src ρ).go fun xs ρ => match kc2Go t mt src1 t1 mt1 mk mv vs vs1 xs [] ρ with
  | .ok acc ρ' => if ρ'.length = ρ.length then .ok (.kd acc) (restR ρ ρ' vs) else .bad
  | _ => .bad := rfl
theorem kFill_append (acc ps qs : List (PyData × PyData)) : kFill acc (ps ++ qs) = kFill (kFill acc ps) qs := by unfold kFill; rw [List.foldl_append]
theorem kc2_map {Inv : Rho → Prop} (f : α → PyData) (l : α → List β) (f1 k g : β → PyData) : ∀ (xs : List α) (acc : List (PyData × PyData)) (ρ : Rho), Inv ρ → acc.length + (xs.flatMap l).length ≤ sizeLine → (∀ x ∈ xs, ∀ y ∈ l x, keyT (k y) = true) →
    (∀ x ∈ xs, ∀ ρ, Inv ρ → ∃ ρ1 ρ2, t (f x) (wipeR ρ vs) = some ρ1 ∧ src1 ρ1 = .ok ((l x).map f1) ρ2 ∧ Inv ρ2 ∧
      ∀ y ∈ l x, ∀ ρ, wipeR ρ vs1 = wipeR ρ2 vs1 → ∃ ρ3 ρ4 ρ5, t1 (f1 y) (wipeR ρ vs1) = some ρ3 ∧ mk ρ3 = .ok (k y) ρ4 ∧ mv ρ4 = .ok (g y) ρ5 ∧ wipeR ρ5 vs1 = wipeR ρ2 vs1) →
    (∀ ρ ρ', wipeR ρ' vs1 = wipeR ρ vs1 → Inv ρ → Inv ρ') → ∃ ρ', Inv ρ' ∧ kc2Go t (M.ret true) src1 t1 (M.ret true) mk mv vs vs1 (xs.map f) acc ρ = .ok (kFill acc ((xs.flatMap l).map fun y => (k y, g y))) ρ'
  | [], acc, ρ, i, _, _, _, _ => ⟨ρ, i, rfl⟩
  | x :: xs, acc, ρ, i, hl, hk, h, hi => by
    obtain ⟨ρ1, ρ2, e1, e2, i2, h2⟩ := h x List.mem_cons_self ρ i
    rw [List.flatMap_cons, List.length_append] at hl
    obtain ⟨ρ3, i3, e3⟩ := kc_map (t := t1) (mk := mk) (mv := mv) (vs := vs1) (Inv := fun r => wipeR r vs1 = wipeR ρ2 vs1) f1 k g (l x) acc ρ2 rfl (by omega) (fun y hy => hk x List.mem_cons_self y hy) h2
    have l2 := kFill_len ((l x).map fun y => (k y, g y)) acc
    rw [List.length_map] at l2
    obtain ⟨ρ', i', e'⟩ := kc2_map f l f1 k g xs (kFill acc ((l x).map fun y => (k y, g y))) ρ3 (hi ρ2 ρ3 i3 i2) (by omega) (fun y hy => hk y (List.mem_cons_of_mem _ hy)) (fun y hy => h y (List.mem_cons_of_mem _ hy)) hi
    refine ⟨ρ', i', ?_⟩
    rw [List.map_cons]
    have e0 : kc2Go t (M.ret true) src1 t1 (M.ret true) mk mv vs vs1 (f x :: xs.map f) acc ρ = kc2Go t (M.ret true) src1 t1 (M.ret true) mk mv vs vs1 (xs.map f) (kFill acc ((l x).map fun y => (k y, g y))) ρ3 := by
      rw [kc2Go]
      simp only [e1, show (M.ret true : M Bool) ρ1 = .ok true ρ1 from rfl, e2, e3]
    rw [e0, e', List.flatMap_cons, List.map_append, kFill_append]
theorem kcomp2_pure {xs : List α} {f : α → PyData} (l : α → List β) {f1 : β → PyData} (k g : β → PyData) (hs : src ρ = .ok (xs.map f) ρ0) (hl : (xs.flatMap l).length ≤ sizeLine) (hv : ∀ i ∈ vs1, i ∈ vs) (hk : ∀ x ∈ xs, ∀ y ∈ l x, keyT (k y) = true)
    (step : ∀ x ∈ xs, ∃ ρ1 ρ2, t (f x) (wipeR ρ0 vs) = some ρ1 ∧ src1 ρ1 = .ok ((l x).map f1) ρ2 ∧ wipeR ρ2 vs = wipeR ρ0 vs ∧
      ∀ y ∈ l x, ∃ ρ3 ρ4 ρ5, t1 (f1 y) (wipeR ρ2 vs1) = some ρ3 ∧ mk ρ3 = .ok (k y) ρ4 ∧ mv ρ4 = .ok (g y) ρ5 ∧ wipeR ρ5 vs1 = wipeR ρ2 vs1) : mKComp2 src t (M.ret true) src1 t1 (M.ret true) mk mv vs vs1 ρ = .ok (.kd (kFill [] ((xs.flatMap l).map fun y => (k y, g y)))) ρ0 := by
  obtain ⟨ρ', i, e⟩ := kc2_map (t := t) (src1 := src1) (t1 := t1) (mk := mk) (mv := mv) (vs1 := vs1) (Inv := fun r => wipeR r vs = wipeR ρ0 vs) f l f1 k g xs [] ρ0 rfl (by rw [List.length_nil]; omega) hk (fun x hx r hr => by
    obtain ⟨ρ1, ρ2, e1, e2, e3, h⟩ := step x hx
    exact ⟨ρ1, ρ2, by rw [hr]; exact e1, e2, e3, fun y hy r2 hr2 => by rw [hr2]; exact h y hy⟩) fun r r' q i => by rw [← wipeR_sub hv, q, wipeR_sub hv]; exact i
  rw [v_kcomp2, hs, v_go]
  simp only [e]
  rw [if_pos (by rw [← wipeR_len ρ' vs, i, wipeR_len]), restR_self i]
end
end Eg
namespace Lw
open PySem L2 PySem.W PySem.SeqAt Eg
-- mine_at of k14
def m_mine_at_e1 : M PyData := mName 2
def m_mine_at_t2 : M Bool := ((mCall fn_is_mine (mCons ((mName 3).bind fun d => M.ret (.dat d)) (mCons ((mName 2).bind fun d => M.ret (.dat d)) (mCons ((mName 1).bind fun d => M.ret (.dat d)) (mNil))))).bind fz).bind truD
def m_mine_at : M Out := sRet (mL gTuple (mCons (((mComp ((mName 0).bind seqItems) (tTup [tName 2, tName 3]) (m_mine_at_t2) (m_mine_at_e1) [2, 3]).bind fz).bind fun d => M.ret (.dat d)) (mNil)))
def fn_mine_at : Fn := fnM 2 [false, false] m_mine_at
-- pairs_told of k14
def m_pairs_told_e1 : M PyData := m2 gIx (mSlot 4) ((M.ret (.int 0)).bind fun d => M.ret (.dat d))
def m_pairs_told_e2 : M PyData := M.ret (.bool true)
def m_pairs_told : M Out := sSeq (sSet 1 (mKComp2 ((mName 0).bind seqItems) (tTup [tName 2, tName 3]) (M.ret true) ((m2 gIx (mSlot 3) ((M.ret (.int 2)).bind fun d => M.ret (.dat d))).bind seqItems) (tName 4) (M.ret true) (m_pairs_told_e1) (m_pairs_told_e2) [2, 3, 4] [4])) (sRet (mL gTuple (mCons (((mKCall 1 kSorted).bind fz).bind fun d => M.ret (.dat d)) (mNil))))
def fn_pairs_told : Fn := fnM 4 [false] m_pairs_told
-- held_twice of k14
def m_held_twice_e1 : M PyData := mFix tupG (mCons ((mName 4).bind fun d => M.ret (.dat d)) (mCons ((mName 5).bind fun d => M.ret (.dat d)) (mNil)))
def m_held_twice_t2 : M Bool := (m2 gNotIn (mSlot 4) (mSlot 1)).bind asBool
def m_held_twice_e3 : M PyData := mFix tupG (mCons ((mName 6).bind fun d => M.ret (.dat d)) (mCons (((mCall fn_mine_at (mCons ((mName 2).bind fun d => M.ret (.dat d)) (mCons ((mName 6).bind fun d => M.ret (.dat d)) (mNil)))).bind fz).bind fun d => M.ret (.dat d)) (mNil)))
def m_held_twice_e4 : M PyData := mFix tupG (mCons ((mName 6).bind fun d => M.ret (.dat d)) (mCons ((mName 7).bind fun d => M.ret (.dat d)) (mNil)))
def m_held_twice_t5 : M Bool := (m2 gGt (((mL gLen (mCons (mSlot 7) (mNil))).bind fz).bind fun d => M.ret (.dat d)) ((M.ret (.int 1)).bind fun d => M.ret (.dat d))).bind asBool
def m_held_twice : M Out := sSeq (sSet 2 (mComp ((mName 0).bind seqItems) (tTup [tName 4, tName 5]) (m_held_twice_t2) (m_held_twice_e1) [4, 5])) (sSeq (sSet 3 (mComp (((mCall fn_pairs_told (mCons ((mName 0).bind fun d => M.ret (.dat d)) (mNil))).bind fz).bind seqItems) (tName 6) (M.ret true) (m_held_twice_e3) [6])) (sRet (mL gTuple (mCons (((mComp ((mName 3).bind seqItems) (tTup [tName 6, tName 7]) (m_held_twice_t5) (m_held_twice_e4) [6, 7]).bind fz).bind fun d => M.ret (.dat d)) (mNil)))))
def fn_held_twice : Fn := fnM 6 [false, false] m_held_twice
-- _law_has of k14
def m_has : M Out := sSeq (sSet 3 (mCall fn_own (mCons ((mName 0).bind fun d => M.ret (.dat d)) (mCons ((mName 1).bind fun d => M.ret (.dat d)) (mCons ((mName 2).bind fun d => M.ret (.dat d)) (mNil)))))) (sRet ((mAndV (m2 gEq ((m2 gIx (mSlot 3) ((M.ret (.int 2)).bind fun d => M.ret (.dat d))).bind fun d => M.ret (.dat d)) (mSlot 1)) (m2 gIx (mSlot 3) ((M.ret (.int 6)).bind fun d => M.ret (.dat d)))).bind fun d => M.ret (.sh d)))
def fn_has : Fn := fnM 1 [false, false, false] m_has
-- _law_put of k14
def m_put_e1 : M PyData := mName 3
def m_put_t2 : M Bool := (m2 gNe ((m2 gIx (mSlot 3) ((M.ret (.int 0)).bind fun d => M.ret (.dat d))).bind fun d => M.ret (.dat d)) ((m2 gIx (mSlot 1) ((M.ret (.int 0)).bind fun d => M.ret (.dat d))).bind fun d => M.ret (.dat d))).bind asBool
def m_put : M Out := sSeq (sSet 2 (mComp ((m2 gIx (mSlot 0) ((M.ret (.int 2)).bind fun d => M.ret (.dat d))).bind seqItems) (tName 3) (m_put_t2) (m_put_e1) [3])) (sRet ((mFix tupG (mCons ((m2 gIx (mSlot 0) ((M.ret (.int 0)).bind fun d => M.ret (.dat d))).bind fun d => M.ret (.dat d)) (mCons ((m2 gIx (mSlot 0) ((M.ret (.int 1)).bind fun d => M.ret (.dat d))).bind fun d => M.ret (.dat d)) (mCons (((mL gTuple (mCons (((mL gSorted (mCons (((m2 aAdd (mSlot 2) (((mFix lstG (mCons ((mName 1).bind fun d => M.ret (.dat d)) (mNil))).bind fz).bind fun d => M.ret (.dat d))).bind fz).bind fun d => M.ret (.dat d)) (mNil))).bind fz).bind fun d => M.ret (.dat d)) (mNil))).bind fz).bind fun d => M.ret (.dat d)) (mNil))))).bind fun d => M.ret (.sh d)))
def fn_put : Fn := fnM 2 [false, false] m_put
-- _law_cast of k14
def m_cast_b1 : M Out := sExpr (mOl 3 (mAppend 3 (mFix tupG (mCons ((mName 4).bind fun d => M.ret (.dat d)) (mCons ((mIf ((m2 gEq (((mCallO fn_take (mCons (mSlot 0) (mCons ((M.ret (.int 5)).bind fun d => M.ret (.dat d)) (mNil)))).bind fz).bind fun d => M.ret (.dat d)) ((M.ret (.int 0)).bind fun d => M.ret (.dat d))).bind asBool) (mFix tupG (mCons ((M.ret (.int 0)).bind fun d => M.ret (.dat d)) (mCons ((M.ret (.int 0)).bind fun d => M.ret (.dat d)) (mCons ((mFix tupG (mNil)).bind fun d => M.ret (.dat d)) (mNil))))) ((mCallO fn_lot (mCons (mSlot 0) (mCons ((mName 2).bind fun d => M.ret (.dat d)) (mCons (((m2 aAdd (mSlot 1) (((mFix lstG (mCons ((M.ret (.str "far")).bind fun d => M.ret (.dat d)) (mNil))).bind fz).bind fun d => M.ret (.dat d))).bind fz).bind fun d => M.ret (.dat d)) (mNil))))).bind fz)).bind fun d => M.ret (.dat d)) (mNil))))))
def m_cast : M Out := sSeq (sSet 3 (mFix lstG (mNil))) (sSeq (sFor ((mName 1).bind seqItems) (tName 4) (m_cast_b1)) (sRet (mL gTuple (mCons (mSlot 3) (mNil)))))
def fn_cast : Fn := fnM 2 [true, false, false] m_cast
-- _law_near of k14
def m_near_b1 : M Out := sIf ((m2 gEq (((mCallO fn_take (mCons (mSlot 0) (mCons ((M.ret (.int 2)).bind fun d => M.ret (.dat d)) (mNil)))).bind fz).bind fun d => M.ret (.dat d)) ((M.ret (.int 0)).bind fun d => M.ret (.dat d))).bind asBool) (sSet 5 (mCall fn_put (mCons ((mName 5).bind fun d => M.ret (.dat d)) (mCons ((mFix tupG (mCons ((mName 6).bind fun d => M.ret (.dat d)) (mCons ((mFix tupG (mCons ((M.ret (.int 1)).bind fun d => M.ret (.dat d)) (mCons (((mCallO fn_take (mCons (mSlot 0) (mCons ((M.ret (.int 3)).bind fun d => M.ret (.dat d)) (mNil)))).bind fz).bind fun d => M.ret (.dat d)) (mNil)))).bind fun d => M.ret (.dat d)) (mCons ((mName 4).bind fun d => M.ret (.dat d)) (mCons ((M.ret (.str "far")).bind fun d => M.ret (.dat d)) (mCons ((M.ret (.int 0)).bind fun d => M.ret (.dat d)) (mCons ((M.ret (.int 0)).bind fun d => M.ret (.dat d)) (mCons ((M.ret (.bool true)).bind fun d => M.ret (.dat d)) (mNil))))))))).bind fun d => M.ret (.dat d)) (mNil))))) (sNext)
def m_near_b2 : M Out := sSeq (sFor ((mName 2).bind seqItems) (tName 6) (m_near_b1)) (sExpr (mOl 3 (mAppend 3 (mFix tupG (mCons ((mName 4).bind fun d => M.ret (.dat d)) (mCons ((mName 5).bind fun d => M.ret (.dat d)) (mNil)))))))
def m_near : M Out := sSeq (sSet 3 (mFix lstG (mNil))) (sSeq (sFor ((mName 1).bind seqItems) (tTup [tName 4, tName 5]) (m_near_b2)) (sRet (mL gTuple (mCons (mSlot 3) (mNil)))))
def fn_near : Fn := fnM 4 [true, false, false] m_near
-- law of k14
def m_law_k14_e1 : M PyData := m2 gIx (mSlot 15) ((M.ret (.int 0)).bind fun d => M.ret (.dat d))
def m_law_k14_b2 : M Out := sSet 8 (m2 aAdd (mSlot 8) (((mComp ((m2 gIx (mSlot 10) ((M.ret (.int 2)).bind fun d => M.ret (.dat d))).bind seqItems) (tName 15) (M.ret true) (m_law_k14_e1) [15]).bind fz).bind fun d => M.ret (.dat d)))
def m_law_k14_e3 : M PyData := mName 9
def m_law_k14_t4 : M Bool := ((mCall fn_has (mCons ((mName 10).bind fun d => M.ret (.dat d)) (mCons ((mName 9).bind fun d => M.ret (.dat d)) (mCons ((mName 11).bind fun d => M.ret (.dat d)) (mNil))))).bind fz).bind truD
def m_law_k14_b5 : M Out := sSeq (sSet 12 (mL gTuple (mCons (((mComp ((mName 6).bind seqItems) (tTup [tName 9, tName 10]) (m_law_k14_t4) (m_law_k14_e3) [9, 10]).bind fz).bind fun d => M.ret (.dat d)) (mNil)))) (sIf ((m2 gNe (((mL gRepr (mCons (((mCall fn_mine_at (mCons ((mName 6).bind fun d => M.ret (.dat d)) (mCons ((mName 11).bind fun d => M.ret (.dat d)) (mNil)))).bind fz).bind fun d => M.ret (.dat d)) (mNil))).bind fz).bind fun d => M.ret (.dat d)) (((mL gRepr (mCons (mSlot 12) (mNil))).bind fz).bind fun d => M.ret (.dat d))).bind asBool) (sRet ((M.ret (.bool false)).bind fun d => M.ret (.sh d))) (sNext))
def m_law_k14_e6 : M PyData := mName 9
def m_law_k14_t7 : M Bool := ((mCall fn_has (mCons ((mName 10).bind fun d => M.ret (.dat d)) (mCons ((mName 9).bind fun d => M.ret (.dat d)) (mCons ((mName 11).bind fun d => M.ret (.dat d)) (mNil))))).bind fz).bind truD
def m_law_k14_e8 : M PyData := mName 9
def m_law_k14_t9 : M Bool := (m2 gNotIn (mSlot 9) (mSlot 13)).bind asBool
def m_law_k14_b10 : M Out := sSeq (sSet 14 (mComp ((mName 6).bind seqItems) (tTup [tName 9, tName 10]) (m_law_k14_t7) (m_law_k14_e6) [9, 10])) (sSeq (sSet 14 (mComp ((mName 14).bind seqItems) (tName 9) (m_law_k14_t9) (m_law_k14_e8) [9])) (sSet 12 (m2 aAdd (mSlot 12) (((m2 aMulT (((mFix lstG (mCons ((mFix tupG (mCons ((mName 11).bind fun d => M.ret (.dat d)) (mCons (((mL gTuple (mCons (mSlot 14) (mNil))).bind fz).bind fun d => M.ret (.dat d)) (mNil)))).bind fun d => M.ret (.dat d)) (mNil))).bind fz).bind fun d => M.ret (.dat d)) (((mL gInt (mCons ((m2 gGt (((mL gLen (mCons (mSlot 14) (mNil))).bind fz).bind fun d => M.ret (.dat d)) ((M.ret (.int 1)).bind fun d => M.ret (.dat d))).bind fun d => M.ret (.dat d)) (mNil))).bind fz).bind fun d => M.ret (.dat d))).bind fz).bind fun d => M.ret (.dat d)))))
def m_law_k14_b11 : M Out := sSeq (sSet 12 (mFix lstG (mNil))) (sSeq (sFor (((mSSet (mCons (mSlot 8) (mNil))).bind fz).bind seqItems) (tName 11) (m_law_k14_b10)) (sIf ((m2 gNe (((mL gRepr (mCons (((mCall fn_held_twice (mApp (mCons ((mName 6).bind fun d => M.ret (.dat d)) (mNil)) (mCons ((mName 13).bind fun d => M.ret (.dat d)) (mNil)))).bind fz).bind fun d => M.ret (.dat d)) (mNil))).bind fz).bind fun d => M.ret (.dat d)) (((mL gRepr (mCons (((mL gTuple (mCons (mSlot 12) (mNil))).bind fz).bind fun d => M.ret (.dat d)) (mNil))).bind fz).bind fun d => M.ret (.dat d))).bind asBool) (sRet ((M.ret (.bool false)).bind fun d => M.ret (.sh d))) (sNext)))
def m_law_k14_b12 : M Out := sSeq (sPar 7 8 (mL gRepr (mCons (mSlot 6) (mNil))) (mFix lstG (mNil))) (sSeq (sFor ((mName 6).bind seqItems) (tTup [tName 9, tName 10]) (m_law_k14_b2)) (sSeq (sFor ((mName 4).bind seqItems) (tName 11) (m_law_k14_b5)) (sSeq (sFor ((mFix tupG (mCons ((mFix tupG (mNil)).bind fun d => M.ret (.dat d)) (mCons (((mL gTuple (mCons (((mSl (mSlot 3) (M.ret none) ((M.ret (.int 1)).bind fun d => (asInt d).bind fun i => M.ret (some i))).bind fz).bind fun d => M.ret (.dat d)) (mNil))).bind fz).bind fun d => M.ret (.dat d)) (mCons (((mL gTuple (mCons (mSlot 3) (mNil))).bind fz).bind fun d => M.ret (.dat d)) (mCons ((mFix tupG (mCons ((M.ret (.str "q")).bind fun d => M.ret (.dat d)) (mNil))).bind fun d => M.ret (.dat d)) (mCons (((mL gTuple (mCons (((m2 aAdd (((mSl (mSlot 3) ((M.ret (.int 1)).bind fun d => (asInt d).bind fun i => M.ret (some i)) (M.ret none)).bind fz).bind fun d => M.ret (.dat d)) (((mFix lstG (mCons ((M.ret (.str "q")).bind fun d => M.ret (.dat d)) (mNil))).bind fz).bind fun d => M.ret (.dat d))).bind fz).bind fun d => M.ret (.dat d)) (mNil))).bind fz).bind fun d => M.ret (.dat d)) (mNil))))))).bind seqItems) (tName 13) (m_law_k14_b11)) (sIf (mOr ((m2 gNe (((mL gRepr (mCons (((mCall fn_held_twice (mPick [.inl 0, .inr (.tuple [])] (mApp (mCons ((mName 6).bind fun d => M.ret (.dat d)) (mNil)) (mNil)))).bind fz).bind fun d => M.ret (.dat d)) (mNil))).bind fz).bind fun d => M.ret (.dat d)) (((mL gRepr (mCons (((mCall fn_held_twice (mApp (mCons ((mName 6).bind fun d => M.ret (.dat d)) (mNil)) (mCons ((mFix tupG (mNil)).bind fun d => M.ret (.dat d)) (mNil)))).bind fz).bind fun d => M.ret (.dat d)) (mNil))).bind fz).bind fun d => M.ret (.dat d))).bind asBool) ((m2 gNe (((mL gRepr (mCons (mSlot 6) (mNil))).bind fz).bind fun d => M.ret (.dat d)) (mSlot 7)).bind asBool)) (sRet ((M.ret (.bool false)).bind fun d => M.ret (.sh d))) (sNext)))))
def m_law_k14_b13 : M Out := sSeq (sSet 3 (mCallO fn_towns (mCons (mSlot 1) (mCons (((m2 aAdd ((M.ret (.int 1)).bind fun d => M.ret (.dat d)) ((m2 gMod (mSlot 2) ((M.ret (.int 2)).bind fun d => M.ret (.dat d))).bind fun d => M.ret (.dat d))).bind fz).bind fun d => M.ret (.dat d)) (mNil))))) (sSeq (sSet 4 (mCall fn_twos (mCons (((m2 aAdd (((mCallO fn_seats (mCons (mSlot 1) (mCons ((mName 3).bind fun d => M.ret (.dat d)) (mCons ((M.ret (.int 4)).bind fun d => M.ret (.dat d)) (mNil))))).bind fz).bind fun d => M.ret (.dat d)) (((mFix lstG (mCons ((mFix tupG (mCons ((M.ret (.str "far")).bind fun d => M.ret (.dat d)) (mCons ((M.ret (.str "a")).bind fun d => M.ret (.dat d)) (mNil)))).bind fun d => M.ret (.dat d)) (mNil))).bind fz).bind fun d => M.ret (.dat d))).bind fz).bind fun d => M.ret (.dat d)) (mNil)))) (sSeq (sSet 5 (mCallO fn_cast (mCons (mSlot 1) (mCons ((mName 3).bind fun d => M.ret (.dat d)) (mCons ((mName 4).bind fun d => M.ret (.dat d)) (mNil)))))) (sFor ((mFix tupG (mCons ((mName 5).bind fun d => M.ret (.dat d)) (mCons (((mCallO fn_near (mCons (mSlot 1) (mCons ((mName 5).bind fun d => M.ret (.dat d)) (mCons (((mSl (mSlot 4) (M.ret none) ((M.ret (.int 5)).bind fun d => (asInt d).bind fun i => M.ret (some i))).bind fz).bind fun d => M.ret (.dat d)) (mNil))))).bind fz).bind fun d => M.ret (.dat d)) (mNil)))).bind seqItems) (tName 6) (m_law_k14_b12))))
def m_law_k14 : M Out := sSeq (sSet 1 (mCall fn_tap (mCons (mSlot 0) (mNil)))) (sSeq (sFor (mL rng1 (mCons ((M.ret (.int 4)).bind fun d => M.ret (.dat d)) (mNil))) (tName 2) (m_law_k14_b13)) (sRet ((M.ret (.bool true)).bind fun d => M.ret (.sh d))))
def fn_law_k14 : Fn := fnM 15 [false] m_law_k14
end Lw
namespace Dv
open PySem L2 PySem.W PySem.SeqAt Eg
def top (i : Nat) : Stmt := PySem.Challenge.pw_strangerbench_k14_looks_over_towns.main.body.getD i (.Pass ⟨0, 0, 0, 0⟩)
abbrev st_home_of : Stmt := top 1
abbrev st_row_of : Stmt := top 3
abbrev st_holds : Stmt := top 4
abbrev st_is_mine : Stmt := top 5
abbrev st_mine_at : Stmt := top 7
abbrev st_pairs_told : Stmt := top 8
abbrev st_held_twice : Stmt := top 9
abbrev st_tap : Stmt := top 11
abbrev st_take : Stmt := top 12
abbrev st_towns : Stmt := top 13
abbrev st_seats : Stmt := top 14
abbrev st_twos : Stmt := top 15
abbrev st_row : Stmt := top 16
abbrev st_lot : Stmt := top 17
abbrev st_own : Stmt := top 18
abbrev st_has : Stmt := top 19
abbrev st_put : Stmt := top 20
abbrev st_cast : Stmt := top 21
abbrev st_near : Stmt := top 22
abbrev st_law : Stmt := top 23
theorem sc_home_of : FnScope ["pair", "_", "greater"] ["pair"] (defScope st_home_of) := ⟨rfl, rfl, rfl, by decide +kernel, rfl, by decide +kernel, by decide +kernel⟩
theorem s_home_of_pair : (defScope st_home_of).names.lookup ("pair" : Str) = some NameKind.local := by decide +kernel
theorem s_home_of__ : (defScope st_home_of).names.lookup ("_" : Str) = some NameKind.local := by decide +kernel
theorem s_home_of_greater : (defScope st_home_of).names.lookup ("greater" : Str) = some NameKind.local := by decide +kernel
theorem sc_row_of : FnScope ["rights", "town", "pair", "turn", "floor", "rows", "row", "home"] ["rights", "town", "pair"] (defScope st_row_of) := ⟨rfl, rfl, rfl, by decide +kernel, rfl, by decide +kernel, by decide +kernel⟩
theorem s_row_of_rights : (defScope st_row_of).names.lookup ("rights" : Str) = some NameKind.local := by decide +kernel
theorem s_row_of_turn : (defScope st_row_of).names.lookup ("turn" : Str) = some NameKind.local := by decide +kernel
theorem s_row_of_floor : (defScope st_row_of).names.lookup ("floor" : Str) = some NameKind.local := by decide +kernel
theorem s_row_of_rows : (defScope st_row_of).names.lookup ("rows" : Str) = some NameKind.local := by decide +kernel
theorem s_row_of_row : (defScope st_row_of).names.lookup ("row" : Str) = some NameKind.local := by decide +kernel
theorem s_row_of_pair : (defScope st_row_of).names.lookup ("pair" : Str) = some NameKind.local := by decide +kernel
theorem s_row_of_home_of : (defScope st_row_of).names.lookup ("home_of" : Str) = some NameKind.globalImplicit := by decide +kernel
theorem s_row_of_home : (defScope st_row_of).names.lookup ("home" : Str) = some NameKind.local := by decide +kernel
theorem s_row_of_town : (defScope st_row_of).names.lookup ("town" : Str) = some NameKind.local := by decide +kernel
theorem sc_holds : FnScope ["row", "town", "_", "place", "here"] ["row", "town"] (defScope st_holds) := ⟨rfl, rfl, rfl, by decide +kernel, rfl, by decide +kernel, by decide +kernel⟩
theorem s_holds_row : (defScope st_holds).names.lookup ("row" : Str) = some NameKind.local := by decide +kernel
theorem s_holds__ : (defScope st_holds).names.lookup ("_" : Str) = some NameKind.local := by decide +kernel
theorem s_holds_place : (defScope st_holds).names.lookup ("place" : Str) = some NameKind.local := by decide +kernel
theorem s_holds_here : (defScope st_holds).names.lookup ("here" : Str) = some NameKind.local := by decide +kernel
theorem s_holds_town : (defScope st_holds).names.lookup ("town" : Str) = some NameKind.local := by decide +kernel
theorem sc_is_mine : FnScope ["rights", "town", "pair"] ["rights", "town", "pair"] (defScope st_is_mine) := ⟨rfl, rfl, rfl, by decide +kernel, rfl, by decide +kernel, by decide +kernel⟩
theorem s_is_mine_town : (defScope st_is_mine).names.lookup ("town" : Str) = some NameKind.local := by decide +kernel
theorem s_is_mine_pair : (defScope st_is_mine).names.lookup ("pair" : Str) = some NameKind.local := by decide +kernel
theorem s_is_mine_rights : (defScope st_is_mine).names.lookup ("rights" : Str) = some NameKind.local := by decide +kernel
theorem s_is_mine_row_of : (defScope st_is_mine).names.lookup ("row_of" : Str) = some NameKind.globalImplicit := by decide +kernel
theorem s_is_mine_holds : (defScope st_is_mine).names.lookup ("holds" : Str) = some NameKind.globalImplicit := by decide +kernel
theorem sc_mine_at : FnScope ["tells", "pair", "town", "rights"] ["tells", "pair"] (defScope st_mine_at) := ⟨rfl, rfl, rfl, by decide +kernel, rfl, by decide +kernel, by decide +kernel⟩
theorem s_mine_at_tells : (defScope st_mine_at).names.lookup ("tells" : Str) = some NameKind.local := by decide +kernel
theorem s_mine_at_tuple : (defScope st_mine_at).names.lookup ("tuple" : Str) = some NameKind.globalImplicit := by decide +kernel
theorem sc_pairs_told : FnScope ["tells", "told", "_", "rights", "row"] ["tells"] (defScope st_pairs_told) := ⟨rfl, rfl, rfl, by decide +kernel, rfl, by decide +kernel, by decide +kernel⟩
theorem s_pairs_told_told : (defScope st_pairs_told).names.lookup ("told" : Str) = some NameKind.local := by decide +kernel
theorem s_pairs_told_tells : (defScope st_pairs_told).names.lookup ("tells" : Str) = some NameKind.local := by decide +kernel
theorem s_pairs_told_sorted : (defScope st_pairs_told).names.lookup ("sorted" : Str) = some NameKind.globalImplicit := by decide +kernel
theorem s_pairs_told_tuple : (defScope st_pairs_told).names.lookup ("tuple" : Str) = some NameKind.globalImplicit := by decide +kernel
theorem sc_held_twice : FnScope ["tells", "wary", "sure", "held", "town", "rights", "pair", "towns"] ["tells", "wary"] (defScope st_held_twice) := ⟨rfl, rfl, rfl, by decide +kernel, rfl, by decide +kernel, by decide +kernel⟩
theorem s_held_twice_tells : (defScope st_held_twice).names.lookup ("tells" : Str) = some NameKind.local := by decide +kernel
theorem s_held_twice_sure : (defScope st_held_twice).names.lookup ("sure" : Str) = some NameKind.cell := by decide +kernel
theorem s_held_twice_held : (defScope st_held_twice).names.lookup ("held" : Str) = some NameKind.local := by decide +kernel
theorem s_held_twice_pairs_told : (defScope st_held_twice).names.lookup ("pairs_told" : Str) = some NameKind.globalImplicit := by decide +kernel
theorem s_held_twice_tuple : (defScope st_held_twice).names.lookup ("tuple" : Str) = some NameKind.globalImplicit := by decide +kernel
theorem sc_tap : FnScope ["script"] ["script"] (defScope st_tap) := ⟨rfl, rfl, rfl, by decide +kernel, rfl, by decide +kernel, by decide +kernel⟩
theorem s_tap_script : (defScope st_tap).names.lookup ("script" : Str) = some NameKind.local := by decide +kernel
theorem s_tap_list : (defScope st_tap).names.lookup ("list" : Str) = some NameKind.globalImplicit := by decide +kernel
theorem sc_take : FnScope ["tap", "many", "calls", "figure", "spot", "cells", "cell", "once"] ["tap", "many"] (defScope st_take) := ⟨rfl, rfl, rfl, by decide +kernel, rfl, by decide +kernel, by decide +kernel⟩
theorem s_take_tap : (defScope st_take).names.lookup ("tap" : Str) = some NameKind.local := by decide +kernel
theorem s_take_calls : (defScope st_take).names.lookup ("calls" : Str) = some NameKind.local := by decide +kernel
theorem s_take_many : (defScope st_take).names.lookup ("many" : Str) = some NameKind.local := by decide +kernel
theorem s_take_figure : (defScope st_take).names.lookup ("figure" : Str) = some NameKind.local := by decide +kernel
theorem s_take_spot : (defScope st_take).names.lookup ("spot" : Str) = some NameKind.local := by decide +kernel
theorem s_take_cells : (defScope st_take).names.lookup ("cells" : Str) = some NameKind.local := by decide +kernel
theorem s_take_len : (defScope st_take).names.lookup ("len" : Str) = some NameKind.globalImplicit := by decide +kernel
theorem s_take_cell : (defScope st_take).names.lookup ("cell" : Str) = some NameKind.local := by decide +kernel
theorem s_take_once : (defScope st_take).names.lookup ("once" : Str) = some NameKind.local := by decide +kernel
theorem sc_towns : FnScope ["tap", "least", "pool", "many"] ["tap", "least"] (defScope st_towns) := ⟨rfl, rfl, rfl, by decide +kernel, rfl, by decide +kernel, by decide +kernel⟩
theorem s_towns_pool : (defScope st_towns).names.lookup ("pool" : Str) = some NameKind.local := by decide +kernel
theorem s_towns_least : (defScope st_towns).names.lookup ("least" : Str) = some NameKind.local := by decide +kernel
theorem s_towns_tap : (defScope st_towns).names.lookup ("tap" : Str) = some NameKind.local := by decide +kernel
theorem s_towns__law_take : (defScope st_towns).names.lookup ("_law_take" : Str) = some NameKind.globalImplicit := by decide +kernel
theorem s_towns_min : (defScope st_towns).names.lookup ("min" : Str) = some NameKind.globalImplicit := by decide +kernel
theorem s_towns_many : (defScope st_towns).names.lookup ("many" : Str) = some NameKind.local := by decide +kernel
theorem s_towns_len : (defScope st_towns).names.lookup ("len" : Str) = some NameKind.globalImplicit := by decide +kernel
theorem sc_seats : FnScope ["tap", "towns", "many", "pool", "found", "place", "k", "word"] ["tap", "towns", "many"] (defScope st_seats) := ⟨rfl, rfl, rfl, by decide +kernel, rfl, by decide +kernel, by decide +kernel⟩
theorem s_seats_pool : (defScope st_seats).names.lookup ("pool" : Str) = some NameKind.local := by decide +kernel
theorem s_seats_found : (defScope st_seats).names.lookup ("found" : Str) = some NameKind.local := by decide +kernel
theorem s_seats_towns : (defScope st_seats).names.lookup ("towns" : Str) = some NameKind.local := by decide +kernel
theorem s_seats_place : (defScope st_seats).names.lookup ("place" : Str) = some NameKind.cell := by decide +kernel
theorem s_seats_len : (defScope st_seats).names.lookup ("len" : Str) = some NameKind.globalImplicit := by decide +kernel
theorem s_seats_many : (defScope st_seats).names.lookup ("many" : Str) = some NameKind.local := by decide +kernel
theorem s_seats_min : (defScope st_seats).names.lookup ("min" : Str) = some NameKind.globalImplicit := by decide +kernel
theorem s_seats_range : (defScope st_seats).names.lookup ("range" : Str) = some NameKind.globalImplicit := by decide +kernel
theorem s_seats_k : (defScope st_seats).names.lookup ("k" : Str) = some NameKind.local := by decide +kernel
theorem s_seats_tap : (defScope st_seats).names.lookup ("tap" : Str) = some NameKind.local := by decide +kernel
theorem s_seats__law_take : (defScope st_seats).names.lookup ("_law_take" : Str) = some NameKind.globalImplicit := by decide +kernel
theorem sc_twos : FnScope ["people", "found", "k", "other"] ["people"] (defScope st_twos) := ⟨rfl, rfl, rfl, by decide +kernel, rfl, by decide +kernel, by decide +kernel⟩
theorem s_twos_found : (defScope st_twos).names.lookup ("found" : Str) = some NameKind.local := by decide +kernel
theorem s_twos_people : (defScope st_twos).names.lookup ("people" : Str) = some NameKind.cell := by decide +kernel
theorem s_twos_len : (defScope st_twos).names.lookup ("len" : Str) = some NameKind.globalImplicit := by decide +kernel
theorem s_twos_range : (defScope st_twos).names.lookup ("range" : Str) = some NameKind.globalImplicit := by decide +kernel
theorem s_twos_k : (defScope st_twos).names.lookup ("k" : Str) = some NameKind.cell := by decide +kernel
theorem s_twos_sorted : (defScope st_twos).names.lookup ("sorted" : Str) = some NameKind.globalImplicit := by decide +kernel
theorem sc_row : FnScope ["tap", "pair", "towns", "stamp", "place", "giver"] ["tap", "pair", "towns"] (defScope st_row) := ⟨rfl, rfl, rfl, by decide +kernel, rfl, by decide +kernel, by decide +kernel⟩
theorem s_row_tap : (defScope st_row).names.lookup ("tap" : Str) = some NameKind.local := by decide +kernel
theorem s_row__law_take : (defScope st_row).names.lookup ("_law_take" : Str) = some NameKind.globalImplicit := by decide +kernel
theorem s_row_stamp : (defScope st_row).names.lookup ("stamp" : Str) = some NameKind.local := by decide +kernel
theorem s_row_towns : (defScope st_row).names.lookup ("towns" : Str) = some NameKind.local := by decide +kernel
theorem s_row_len : (defScope st_row).names.lookup ("len" : Str) = some NameKind.globalImplicit := by decide +kernel
theorem s_row_place : (defScope st_row).names.lookup ("place" : Str) = some NameKind.local := by decide +kernel
theorem s_row_giver : (defScope st_row).names.lookup ("giver" : Str) = some NameKind.local := by decide +kernel
theorem s_row_pair : (defScope st_row).names.lookup ("pair" : Str) = some NameKind.local := by decide +kernel
theorem sc_lot : FnScope ["tap", "pairs", "towns", "rows", "pair"] ["tap", "pairs", "towns"] (defScope st_lot) := ⟨rfl, rfl, rfl, by decide +kernel, rfl, by decide +kernel, by decide +kernel⟩
theorem s_lot_pairs : (defScope st_lot).names.lookup ("pairs" : Str) = some NameKind.local := by decide +kernel
theorem s_lot_tuple : (defScope st_lot).names.lookup ("tuple" : Str) = some NameKind.globalImplicit := by decide +kernel
theorem s_lot_rows : (defScope st_lot).names.lookup ("rows" : Str) = some NameKind.local := by decide +kernel
theorem s_lot_tap : (defScope st_lot).names.lookup ("tap" : Str) = some NameKind.cell := by decide +kernel
theorem s_lot__law_take : (defScope st_lot).names.lookup ("_law_take" : Str) = some NameKind.globalImplicit := by decide +kernel
theorem sc_own : FnScope ["lot", "place", "pair", "found", "home", "row"] ["lot", "place", "pair"] (defScope st_own) := ⟨rfl, rfl, rfl, by decide +kernel, rfl, by decide +kernel, by decide +kernel⟩
theorem s_own_found : (defScope st_own).names.lookup ("found" : Str) = some NameKind.local := by decide +kernel
theorem s_own_lot : (defScope st_own).names.lookup ("lot" : Str) = some NameKind.local := by decide +kernel
theorem s_own_pair : (defScope st_own).names.lookup ("pair" : Str) = some NameKind.cell := by decide +kernel
theorem s_own_home : (defScope st_own).names.lookup ("home" : Str) = some NameKind.local := by decide +kernel
theorem s_own_place : (defScope st_own).names.lookup ("place" : Str) = some NameKind.local := by decide +kernel
theorem sc_has : FnScope ["lot", "place", "pair", "row"] ["lot", "place", "pair"] (defScope st_has) := ⟨rfl, rfl, rfl, by decide +kernel, rfl, by decide +kernel, by decide +kernel⟩
theorem s_has_pair : (defScope st_has).names.lookup ("pair" : Str) = some NameKind.local := by decide +kernel
theorem s_has_place : (defScope st_has).names.lookup ("place" : Str) = some NameKind.local := by decide +kernel
theorem s_has_lot : (defScope st_has).names.lookup ("lot" : Str) = some NameKind.local := by decide +kernel
theorem s_has__law_own : (defScope st_has).names.lookup ("_law_own" : Str) = some NameKind.globalImplicit := by decide +kernel
theorem s_has_row : (defScope st_has).names.lookup ("row" : Str) = some NameKind.local := by decide +kernel
theorem sc_put : FnScope ["lot", "row", "rest", "own"] ["lot", "row"] (defScope st_put) := ⟨rfl, rfl, rfl, by decide +kernel, rfl, by decide +kernel, by decide +kernel⟩
theorem s_put_rest : (defScope st_put).names.lookup ("rest" : Str) = some NameKind.local := by decide +kernel
theorem s_put_lot : (defScope st_put).names.lookup ("lot" : Str) = some NameKind.local := by decide +kernel
theorem s_put_row : (defScope st_put).names.lookup ("row" : Str) = some NameKind.cell := by decide +kernel
theorem s_put_sorted : (defScope st_put).names.lookup ("sorted" : Str) = some NameKind.globalImplicit := by decide +kernel
theorem s_put_tuple : (defScope st_put).names.lookup ("tuple" : Str) = some NameKind.globalImplicit := by decide +kernel
theorem sc_cast : FnScope ["tap", "towns", "pairs", "found", "name"] ["tap", "towns", "pairs"] (defScope st_cast) := ⟨rfl, rfl, rfl, by decide +kernel, rfl, by decide +kernel, by decide +kernel⟩
theorem s_cast_found : (defScope st_cast).names.lookup ("found" : Str) = some NameKind.local := by decide +kernel
theorem s_cast_towns : (defScope st_cast).names.lookup ("towns" : Str) = some NameKind.local := by decide +kernel
theorem s_cast_name : (defScope st_cast).names.lookup ("name" : Str) = some NameKind.local := by decide +kernel
theorem s_cast_tap : (defScope st_cast).names.lookup ("tap" : Str) = some NameKind.local := by decide +kernel
theorem s_cast__law_take : (defScope st_cast).names.lookup ("_law_take" : Str) = some NameKind.globalImplicit := by decide +kernel
theorem s_cast_pairs : (defScope st_cast).names.lookup ("pairs" : Str) = some NameKind.local := by decide +kernel
theorem s_cast__law_lot : (defScope st_cast).names.lookup ("_law_lot" : Str) = some NameKind.globalImplicit := by decide +kernel
theorem s_cast_tuple : (defScope st_cast).names.lookup ("tuple" : Str) = some NameKind.globalImplicit := by decide +kernel
theorem sc_near : FnScope ["tap", "cast", "pairs", "found", "name", "lot", "pair"] ["tap", "cast", "pairs"] (defScope st_near) := ⟨rfl, rfl, rfl, by decide +kernel, rfl, by decide +kernel, by decide +kernel⟩
theorem s_near_found : (defScope st_near).names.lookup ("found" : Str) = some NameKind.local := by decide +kernel
theorem s_near_cast : (defScope st_near).names.lookup ("cast" : Str) = some NameKind.local := by decide +kernel
theorem s_near_name : (defScope st_near).names.lookup ("name" : Str) = some NameKind.local := by decide +kernel
theorem s_near_lot : (defScope st_near).names.lookup ("lot" : Str) = some NameKind.local := by decide +kernel
theorem s_near_pairs : (defScope st_near).names.lookup ("pairs" : Str) = some NameKind.local := by decide +kernel
theorem s_near_pair : (defScope st_near).names.lookup ("pair" : Str) = some NameKind.local := by decide +kernel
theorem s_near_tap : (defScope st_near).names.lookup ("tap" : Str) = some NameKind.local := by decide +kernel
theorem s_near__law_take : (defScope st_near).names.lookup ("_law_take" : Str) = some NameKind.globalImplicit := by decide +kernel
theorem s_near__law_put : (defScope st_near).names.lookup ("_law_put" : Str) = some NameKind.globalImplicit := by decide +kernel
theorem s_near_tuple : (defScope st_near).names.lookup ("tuple" : Str) = some NameKind.globalImplicit := by decide +kernel
theorem sc_law : FnScope ["script", "tap", "turn", "towns", "pairs", "cast", "some", "kept", "seen", "name", "lot", "pair", "due", "asleep", "names", "row"] ["script"] (defScope st_law) := ⟨rfl, rfl, rfl, by decide +kernel, rfl, by decide +kernel, by decide +kernel⟩
theorem s_law_script : (defScope st_law).names.lookup ("script" : Str) = some NameKind.local := by decide +kernel
theorem s_law__law_tap : (defScope st_law).names.lookup ("_law_tap" : Str) = some NameKind.globalImplicit := by decide +kernel
theorem s_law_tap : (defScope st_law).names.lookup ("tap" : Str) = some NameKind.local := by decide +kernel
theorem s_law_range : (defScope st_law).names.lookup ("range" : Str) = some NameKind.globalImplicit := by decide +kernel
theorem s_law_turn : (defScope st_law).names.lookup ("turn" : Str) = some NameKind.local := by decide +kernel
theorem s_law__law_towns : (defScope st_law).names.lookup ("_law_towns" : Str) = some NameKind.globalImplicit := by decide +kernel
theorem s_law_towns : (defScope st_law).names.lookup ("towns" : Str) = some NameKind.local := by decide +kernel
theorem s_law__law_seats : (defScope st_law).names.lookup ("_law_seats" : Str) = some NameKind.globalImplicit := by decide +kernel
theorem s_law__law_twos : (defScope st_law).names.lookup ("_law_twos" : Str) = some NameKind.globalImplicit := by decide +kernel
theorem s_law_pairs : (defScope st_law).names.lookup ("pairs" : Str) = some NameKind.local := by decide +kernel
theorem s_law__law_cast : (defScope st_law).names.lookup ("_law_cast" : Str) = some NameKind.globalImplicit := by decide +kernel
theorem s_law_cast : (defScope st_law).names.lookup ("cast" : Str) = some NameKind.local := by decide +kernel
theorem s_law__law_near : (defScope st_law).names.lookup ("_law_near" : Str) = some NameKind.globalImplicit := by decide +kernel
theorem s_law_some : (defScope st_law).names.lookup ("some" : Str) = some NameKind.local := by decide +kernel
theorem s_law_repr : (defScope st_law).names.lookup ("repr" : Str) = some NameKind.globalImplicit := by decide +kernel
theorem s_law_kept : (defScope st_law).names.lookup ("kept" : Str) = some NameKind.local := by decide +kernel
theorem s_law_seen : (defScope st_law).names.lookup ("seen" : Str) = some NameKind.local := by decide +kernel
theorem s_law_name : (defScope st_law).names.lookup ("name" : Str) = some NameKind.local := by decide +kernel
theorem s_law_lot : (defScope st_law).names.lookup ("lot" : Str) = some NameKind.local := by decide +kernel
theorem s_law_pair : (defScope st_law).names.lookup ("pair" : Str) = some NameKind.cell := by decide +kernel
theorem s_law_tuple : (defScope st_law).names.lookup ("tuple" : Str) = some NameKind.globalImplicit := by decide +kernel
theorem s_law_due : (defScope st_law).names.lookup ("due" : Str) = some NameKind.local := by decide +kernel
theorem s_law_mine_at : (defScope st_law).names.lookup ("mine_at" : Str) = some NameKind.globalImplicit := by decide +kernel
theorem s_law_asleep : (defScope st_law).names.lookup ("asleep" : Str) = some NameKind.cell := by decide +kernel
theorem s_law_sorted : (defScope st_law).names.lookup ("sorted" : Str) = some NameKind.globalImplicit := by decide +kernel
theorem s_law_set : (defScope st_law).names.lookup ("set" : Str) = some NameKind.globalImplicit := by decide +kernel
theorem s_law_names : (defScope st_law).names.lookup ("names" : Str) = some NameKind.local := by decide +kernel
theorem s_law_len : (defScope st_law).names.lookup ("len" : Str) = some NameKind.globalImplicit := by decide +kernel
theorem s_law_int : (defScope st_law).names.lookup ("int" : Str) = some NameKind.globalImplicit := by decide +kernel
theorem s_law_held_twice : (defScope st_law).names.lookup ("held_twice" : Str) = some NameKind.globalImplicit := by decide +kernel
section
variable {P : Program} {w : World} {K : PySem.W.Frag} {mg : Str → Option Value} {base : Heap} {XR : Hp → Hp → Value → Option Addr → Xc → Prop}
structure Zs (K : PySem.W.Frag) (mg : Str → Option Value) (f_home_of : Addr) (d_home_of : FuncData) (f_row_of : Addr) (d_row_of : FuncData) (f_holds : Addr) (d_holds : FuncData) (f_is_mine : Addr) (d_is_mine : FuncData) (f_mine_at : Addr) (d_mine_at : FuncData) (f_pairs_told : Addr) (d_pairs_told : FuncData) (f_held_twice : Addr) (d_held_twice : FuncData) (f_tap : Addr) (d_tap : FuncData) (f_take : Addr) (d_take : FuncData) (f_towns : Addr) (d_towns : FuncData) (f_seats : Addr) (d_seats : FuncData) (f_twos : Addr) (d_twos : FuncData) (f_row : Addr) (d_row : FuncData) (f_lot : Addr) (d_lot : FuncData) (f_own : Addr) (d_own : FuncData) (f_has : Addr) (d_has : FuncData) (f_put : Addr) (d_put : FuncData) (f_cast : Addr) (d_cast : FuncData) (f_near : Addr) (d_near : FuncData) (T_held_twice_wary : Addr) : Prop where
  n_int : mg "int" = none
  n_len : mg "len" = none
  n_list : mg "list" = none
  n_max : mg "max" = none
  n_min : mg "min" = none
  n_range : mg "range" = none
  n_repr : mg "repr" = none
  n_set : mg "set" = none
  n_sorted : mg "sorted" = none
  n_tuple : mg "tuple" = none
  g_home_of : mg "home_of" = some (.ref f_home_of)
  k_home_of : PySem.W.keepIn K (.ref f_home_of) = true
  b_home_of : Binds K d_home_of ["pair"] []
  g_row_of : mg "row_of" = some (.ref f_row_of)
  k_row_of : PySem.W.keepIn K (.ref f_row_of) = true
  b_row_of : Binds K d_row_of ["rights", "town", "pair"] []
  g_holds : mg "holds" = some (.ref f_holds)
  k_holds : PySem.W.keepIn K (.ref f_holds) = true
  b_holds : Binds K d_holds ["row", "town"] []
  g_is_mine : mg "is_mine" = some (.ref f_is_mine)
  k_is_mine : PySem.W.keepIn K (.ref f_is_mine) = true
  b_is_mine : Binds K d_is_mine ["rights", "town", "pair"] []
  g_mine_at : mg "mine_at" = some (.ref f_mine_at)
  k_mine_at : PySem.W.keepIn K (.ref f_mine_at) = true
  b_mine_at : Binds K d_mine_at ["tells", "pair"] []
  g_pairs_told : mg "pairs_told" = some (.ref f_pairs_told)
  k_pairs_told : PySem.W.keepIn K (.ref f_pairs_told) = true
  b_pairs_told : Binds K d_pairs_told ["tells"] []
  g_held_twice : mg "held_twice" = some (.ref f_held_twice)
  k_held_twice : PySem.W.keepIn K (.ref f_held_twice) = true
  b_held_twice : BindsK K d_held_twice ["tells", "wary"] ["wary"] 1 1
  g_tap : mg "_law_tap" = some (.ref f_tap)
  k_tap : PySem.W.keepIn K (.ref f_tap) = true
  b_tap : Binds K d_tap ["script"] []
  g_take : mg "_law_take" = some (.ref f_take)
  k_take : PySem.W.keepIn K (.ref f_take) = true
  b_take : Binds K d_take ["tap", "many"] []
  g_towns : mg "_law_towns" = some (.ref f_towns)
  k_towns : PySem.W.keepIn K (.ref f_towns) = true
  b_towns : Binds K d_towns ["tap", "least"] []
  g_seats : mg "_law_seats" = some (.ref f_seats)
  k_seats : PySem.W.keepIn K (.ref f_seats) = true
  b_seats : Binds K d_seats ["tap", "towns", "many"] []
  g_twos : mg "_law_twos" = some (.ref f_twos)
  k_twos : PySem.W.keepIn K (.ref f_twos) = true
  b_twos : Binds K d_twos ["people"] []
  g_row : mg "_law_row" = some (.ref f_row)
  k_row : PySem.W.keepIn K (.ref f_row) = true
  b_row : Binds K d_row ["tap", "pair", "towns"] []
  g_lot : mg "_law_lot" = some (.ref f_lot)
  k_lot : PySem.W.keepIn K (.ref f_lot) = true
  b_lot : Binds K d_lot ["tap", "pairs", "towns"] []
  g_own : mg "_law_own" = some (.ref f_own)
  k_own : PySem.W.keepIn K (.ref f_own) = true
  b_own : Binds K d_own ["lot", "place", "pair"] []
  g_has : mg "_law_has" = some (.ref f_has)
  k_has : PySem.W.keepIn K (.ref f_has) = true
  b_has : Binds K d_has ["lot", "place", "pair"] []
  g_put : mg "_law_put" = some (.ref f_put)
  k_put : PySem.W.keepIn K (.ref f_put) = true
  b_put : Binds K d_put ["lot", "row"] []
  g_cast : mg "_law_cast" = some (.ref f_cast)
  k_cast : PySem.W.keepIn K (.ref f_cast) = true
  b_cast : Binds K d_cast ["tap", "towns", "pairs"] []
  g_near : mg "_law_near" = some (.ref f_near)
  k_near : PySem.W.keepIn K (.ref f_near) = true
  b_near : Binds K d_near ["tap", "cast", "pairs"] []
  p_held_twice_1_ : BindsP K d_held_twice ["tells", "wary"] [] 1 0 [.inl 0, .inr ((.ref T_held_twice_wary), (.ref T_held_twice_wary), (.tuple []))]
  q_held_twice_1_ : pkOk K (1 + 0) [.inl 0, .inr ((.ref T_held_twice_wary), (.ref T_held_twice_wary), (.tuple []))]
variable {f_home_of : Addr} {d_home_of : FuncData} {f_row_of : Addr} {d_row_of : FuncData} {f_holds : Addr} {d_holds : FuncData} {f_is_mine : Addr} {d_is_mine : FuncData} {f_mine_at : Addr} {d_mine_at : FuncData} {f_pairs_told : Addr} {d_pairs_told : FuncData} {f_held_twice : Addr} {d_held_twice : FuncData} {f_tap : Addr} {d_tap : FuncData} {f_take : Addr} {d_take : FuncData} {f_towns : Addr} {d_towns : FuncData} {f_seats : Addr} {d_seats : FuncData} {f_twos : Addr} {d_twos : FuncData} {f_row : Addr} {d_row : FuncData} {f_lot : Addr} {d_lot : FuncData} {f_own : Addr} {d_own : FuncData} {f_has : Addr} {d_has : FuncData} {f_put : Addr} {d_put : FuncData} {f_cast : Addr} {d_cast : FuncData} {f_near : Addr} {d_near : FuncData} {T_held_twice_wary : Addr}
theorem ok_home_of {f : Addr} {fd : FuncData} (Z : Zs K mg f_home_of d_home_of f_row_of d_row_of f_holds d_holds f_is_mine d_is_mine f_mine_at d_mine_at f_pairs_told d_pairs_told f_held_twice d_held_twice f_tap d_tap f_take d_take f_towns d_towns f_seats d_seats f_twos d_twos f_row d_row f_lot d_lot f_own d_own f_has d_has f_put d_put f_cast d_cast f_near d_near T_held_twice_wary) (F0 : Fun K "home_of" "home_of" st_home_of f fd)  : FnG P w K mg base (L2.CX P w) 1 f fd ["pair"] (spI K w XR 1 Lw.fn_home_of) := by
  refine okI (N := ["pair", "_", "greater"]) (ps := ["pair"]) (k := 0) (body := Lw.m_home_of) [false] F0 sc_home_of rfl (by decide) fun cdv A outer s H E hg hr => ?_
  have hu := hr.units
  have hu1 := hr.units1
  have tk : Takes (cxOf (L2.CX P w) P w K mg base ["pair", "_", "greater"] "home_of" (defScope st_home_of) f cdv A outer s H E) (fun cls d _ H' => E cls d H') := takes_of rfl rfl rfl rfl
  exact ss_cons (s_un (n := 3) (d_name (pe_var (i := 0) rfl (.inl s_home_of_pair))) (pg_tup (n := 2) rfl (pgs_cons (pg_name (i := 1) sc_home_of.nd rfl (.inl s_home_of__)) (pgs_cons (pg_name (i := 2) sc_home_of.nd rfl (.inl s_home_of_greater)) (pgs_nil)))) (g_tup (.cons (g_name) (.cons (g_name) (.nil))))) (ss_one (s_ret (o_of_d (d_ix (a_name (pe_var (i := 2) rfl (.inl s_home_of_greater))) (a_of_d (d_int)) (fun _ _ => rfl)))))
theorem ok_row_of {f : Addr} {fd : FuncData} (Z : Zs K mg f_home_of d_home_of f_row_of d_row_of f_holds d_holds f_is_mine d_is_mine f_mine_at d_mine_at f_pairs_told d_pairs_told f_held_twice d_held_twice f_tap d_tap f_take d_take f_towns d_towns f_seats d_seats f_twos d_twos f_row d_row f_lot d_lot f_own d_own f_has d_has f_put d_put f_cast d_cast f_near d_near T_held_twice_wary) (F0 : Fun K "row_of" "row_of" st_row_of f fd) (F_home_of : FnG P w K mg base (L2.CX P w) 1 f_home_of d_home_of ["pair"] (spI K w XR 1 Lw.fn_home_of)) : FnG P w K mg base (L2.CX P w) 2 f fd ["rights", "town", "pair"] (spI K w XR 3 Lw.fn_row_of) := by
  refine okI (N := ["rights", "town", "pair", "turn", "floor", "rows", "row", "home"]) (ps := ["rights", "town", "pair"]) (k := 1) (body := Lw.m_row_of) [false, false, false] F0 sc_row_of rfl (by decide) fun cdv A outer s H E hg hr => ?_
  have hu := hr.units
  have hu1 := hr.units1
  have tk : Takes (cxOf (L2.CX P w) P w K mg base ["rights", "town", "pair", "turn", "floor", "rows", "row", "home"] "row_of" (defScope st_row_of) f cdv A outer s H E) (fun cls d _ H' => E cls d H') := takes_of rfl rfl rfl rfl
  exact ss_cons (s_un (n := 8) (d_name (pe_var (i := 0) rfl (.inl s_row_of_rights))) (pg_tup (n := 3) rfl (pgs_cons (pg_name (i := 3) sc_row_of.nd rfl (.inl s_row_of_turn)) (pgs_cons (pg_name (i := 4) sc_row_of.nd rfl (.inl s_row_of_floor)) (pgs_cons (pg_name (i := 5) sc_row_of.nd rfl (.inl s_row_of_rows)) (pgs_nil))))) (g_tup (.cons (g_name) (.cons (g_name) (.cons (g_name) (.nil)))))) (ss_cons (s_for (n := 8) (passes_of rfl) rfl (i_seq (d_name (pe_var (i := 5) rfl (.inl s_row_of_rows)))) (pg_name (i := 6) sc_row_of.nd rfl (.inl s_row_of_row)) (g_name) (ss_one (s_if (t_cmp (od_eq hu) (a_of_d (d_ix (a_name (pe_var (i := 6) rfl (.inl s_row_of_row))) (a_of_d (d_int)) (fun _ _ => rfl))) (a_name (pe_var (i := 2) rfl (.inl s_row_of_pair)))) (ss_one (s_ret (o_take (pe_var (i := 6) rfl (.inl s_row_of_row))))) (ss_nil)))) (ss_cons (s_set (i := 7) sc_row_of.nd rfl (.inl s_row_of_home) (o_fn F_home_of hg (hr.mono (by decide)) s_row_of_home_of Z.g_home_of Z.k_home_of Z.b_home_of tk (l_cons (a_of_d (d_name (pe_var (i := 2) rfl (.inl s_row_of_pair)))) (l_nil)) rfl (ll_cons (ll_nil)))) (ss_cons (s_if (t_cmp (od_eq hu) (a_name (pe_var (i := 1) rfl (.inl s_row_of_town))) (a_name (pe_var (i := 7) rfl (.inl s_row_of_home)))) (ss_one (s_ret (o_of_d (d_tup (l_cons (a_of_d (d_name (pe_var (i := 2) rfl (.inl s_row_of_pair)))) (l_cons (a_of_d (d_tup (l_cons (a_of_d (d_name (pe_var (i := 3) rfl (.inl s_row_of_turn)))) (l_cons (a_of_d (d_int)) (l_nil))))) (l_cons (a_of_d (d_name (pe_var (i := 7) rfl (.inl s_row_of_home)))) (l_cons (a_of_d (d_name (pe_var (i := 7) rfl (.inl s_row_of_home)))) (l_cons (a_of_d (d_int)) (l_cons (a_of_d (d_name (pe_var (i := 4) rfl (.inl s_row_of_floor)))) (l_cons (a_of_d (d_bool)) (l_nil)))))))))))) (ss_nil)) (ss_one (s_ret (o_of_d (d_tup (l_cons (a_of_d (d_name (pe_var (i := 2) rfl (.inl s_row_of_pair)))) (l_cons (a_of_d (d_tup (l_cons (a_of_d (d_int)) (l_cons (a_of_d (d_int)) (l_nil))))) (l_cons (a_of_d (d_name (pe_var (i := 7) rfl (.inl s_row_of_home)))) (l_cons (a_of_d (d_name (pe_var (i := 7) rfl (.inl s_row_of_home)))) (l_cons (a_of_d (d_int)) (l_cons (a_of_d (d_int)) (l_cons (a_of_d (d_bool)) (l_nil)))))))))))))))
theorem ok_holds {f : Addr} {fd : FuncData} (Z : Zs K mg f_home_of d_home_of f_row_of d_row_of f_holds d_holds f_is_mine d_is_mine f_mine_at d_mine_at f_pairs_told d_pairs_told f_held_twice d_held_twice f_tap d_tap f_take d_take f_towns d_towns f_seats d_seats f_twos d_twos f_row d_row f_lot d_lot f_own d_own f_has d_has f_put d_put f_cast d_cast f_near d_near T_held_twice_wary) (F0 : Fun K "holds" "holds" st_holds f fd)  : FnG P w K mg base (L2.CX P w) 1 f fd ["row", "town"] (spI K w XR 2 Lw.fn_holds) := by
  refine okI (N := ["row", "town", "_", "place", "here"]) (ps := ["row", "town"]) (k := 0) (body := Lw.m_holds) [false, false] F0 sc_holds rfl (by decide) fun cdv A outer s H E hg hr => ?_
  have hu := hr.units
  have hu1 := hr.units1
  have tk : Takes (cxOf (L2.CX P w) P w K mg base ["row", "town", "_", "place", "here"] "holds" (defScope st_holds) f cdv A outer s H E) (fun cls d _ H' => E cls d H') := takes_of rfl rfl rfl rfl
  exact ss_cons (s_un (n := 5) (d_name (pe_var (i := 0) rfl (.inl s_holds_row))) (pg_tup (n := 7) rfl (pgs_cons (pg_name (i := 2) sc_holds.nd rfl (.inl s_holds__)) (pgs_cons (pg_name (i := 2) sc_holds.nd rfl (.inl s_holds__)) (pgs_cons (pg_name (i := 3) sc_holds.nd rfl (.inl s_holds_place)) (pgs_cons (pg_name (i := 2) sc_holds.nd rfl (.inl s_holds__)) (pgs_cons (pg_name (i := 2) sc_holds.nd rfl (.inl s_holds__)) (pgs_cons (pg_name (i := 2) sc_holds.nd rfl (.inl s_holds__)) (pgs_cons (pg_name (i := 4) sc_holds.nd rfl (.inl s_holds_here)) (pgs_nil))))))))) (g_tup (.cons (g_name) (.cons (g_name) (.cons (g_name) (.cons (g_name) (.cons (g_name) (.cons (g_name) (.cons (g_name) (.nil)))))))))) (ss_one (s_ret (o_of_d (d_and (d_cmp (od_eq hu) (a_name (pe_var (i := 3) rfl (.inl s_holds_place))) (a_name (pe_var (i := 1) rfl (.inl s_holds_town)))) (d_one (d_name (pe_var (i := 4) rfl (.inl s_holds_here))))))))
theorem ok_is_mine {f : Addr} {fd : FuncData} (Z : Zs K mg f_home_of d_home_of f_row_of d_row_of f_holds d_holds f_is_mine d_is_mine f_mine_at d_mine_at f_pairs_told d_pairs_told f_held_twice d_held_twice f_tap d_tap f_take d_take f_towns d_towns f_seats d_seats f_twos d_twos f_row d_row f_lot d_lot f_own d_own f_has d_has f_put d_put f_cast d_cast f_near d_near T_held_twice_wary) (F0 : Fun K "is_mine" "is_mine" st_is_mine f fd) (F_holds : FnG P w K mg base (L2.CX P w) 1 f_holds d_holds ["row", "town"] (spI K w XR 2 Lw.fn_holds)) (F_row_of : FnG P w K mg base (L2.CX P w) 2 f_row_of d_row_of ["rights", "town", "pair"] (spI K w XR 3 Lw.fn_row_of)) : FnG P w K mg base (L2.CX P w) 3 f fd ["rights", "town", "pair"] (spI K w XR 3 Lw.fn_is_mine) := by
  refine okI (N := ["rights", "town", "pair"]) (ps := ["rights", "town", "pair"]) (k := 2) (body := Lw.m_is_mine) [false, false, false] F0 sc_is_mine rfl (by decide) fun cdv A outer s H E hg hr => ?_
  have hu := hr.units
  have hu1 := hr.units1
  have tk : Takes (cxOf (L2.CX P w) P w K mg base ["rights", "town", "pair"] "is_mine" (defScope st_is_mine) f cdv A outer s H E) (fun cls d _ H' => E cls d H') := takes_of rfl rfl rfl rfl
  exact ss_one (s_ret (o_fn F_holds hg (hr.mono (by decide)) s_is_mine_holds Z.g_holds Z.k_holds Z.b_holds tk (l_cons (a_of_d (d_of_o (o_fn F_row_of hg (hr.mono (by decide)) s_is_mine_row_of Z.g_row_of Z.k_row_of Z.b_row_of tk (l_cons (a_of_d (d_name (pe_var (i := 0) rfl (.inl s_is_mine_rights)))) (l_cons (a_of_d (d_name (pe_var (i := 1) rfl (.inl s_is_mine_town)))) (l_cons (a_of_d (d_name (pe_var (i := 2) rfl (.inl s_is_mine_pair)))) (l_nil)))) rfl (ll_cons (ll_cons (ll_cons (ll_nil))))))) (l_cons (a_of_d (d_name (pe_var (i := 1) rfl (.inl s_is_mine_town)))) (l_nil))) rfl (ll_cons (ll_cons (ll_nil)))))
theorem ok_mine_at {f : Addr} {fd : FuncData} (Z : Zs K mg f_home_of d_home_of f_row_of d_row_of f_holds d_holds f_is_mine d_is_mine f_mine_at d_mine_at f_pairs_told d_pairs_told f_held_twice d_held_twice f_tap d_tap f_take d_take f_towns d_towns f_seats d_seats f_twos d_twos f_row d_row f_lot d_lot f_own d_own f_has d_has f_put d_put f_cast d_cast f_near d_near T_held_twice_wary) (F0 : Fun K "mine_at" "mine_at" st_mine_at f fd) (F_is_mine : FnG P w K mg base (L2.CX P w) 3 f_is_mine d_is_mine ["rights", "town", "pair"] (spI K w XR 3 Lw.fn_is_mine)) : FnG P w K mg base (L2.CX P w) 4 f fd ["tells", "pair"] (spI K w XR 2 Lw.fn_mine_at) := by
  refine okI (N := ["tells", "pair", "town", "rights"]) (ps := ["tells", "pair"]) (k := 3) (body := Lw.m_mine_at) [false, false] F0 sc_mine_at rfl (by decide) fun cdv A outer s H E hg hr => ?_
  have hu := hr.units
  have hu1 := hr.units1
  have tk : Takes (cxOf (L2.CX P w) P w K mg base ["tells", "pair", "town", "rights"] "mine_at" (defScope st_mine_at) f cdv A outer s H E) (fun cls d _ H' => E cls d H') := takes_of rfl rfl rfl rfl
  exact ss_one (s_ret (o_callTy co_tuple s_mine_at_tuple Z.n_tuple b_tuple (l_cons (a_of_d (d_of_o (o_comp (n := 4) (own := [("town", 2), ("rights", 3)]) rfl sc_mine_at.nd (i_seq (d_name (pe_var (i := 0) rfl (.inl s_mine_at_tells)))) (blkOk_by (N := ["tells", "pair", "town", "rights"]) (sc := defScope st_mine_at) (own := [("town", 2), ("rights", 3)]) (by decide +kernel)) (fun _ _ _ _ _ => pg_tup (n := 2) rfl (pgs_cons (pg_name (i := 2) sc_mine_at.nd rfl (.inl rfl)) (pgs_cons (pg_name (i := 3) sc_mine_at.nd rfl (.inl rfl)) (pgs_nil)))) (g_tup (.cons (g_name) (.cons (g_name) (.nil)))) (fun _ _ _ _ _ => c_one (t_tru (d_of_o (o_fn F_is_mine hg (hr.mono (by decide)) (blk_gl (sc := defScope st_mine_at) rfl rfl (by decide +kernel)) Z.g_is_mine Z.k_is_mine Z.b_is_mine takes0 (l_cons (a_of_d (d_name (pe_var (i := 3) rfl (.inl rfl)))) (l_cons (a_of_d (d_name (pe_var (i := 2) rfl (.inl rfl)))) (l_cons (a_of_d (d_name (pe_var (i := 1) rfl (.inr (.inl (blk_look (sc := defScope st_mine_at) rfl (by decide +kernel))))))) (l_nil)))) rfl (ll_cons (ll_cons (ll_cons (ll_nil)))))))) (fun _ _ _ _ _ => d_name (pe_var (i := 2) rfl (.inl rfl)))))) (l_nil))))
theorem ok_pairs_told {f : Addr} {fd : FuncData} (Z : Zs K mg f_home_of d_home_of f_row_of d_row_of f_holds d_holds f_is_mine d_is_mine f_mine_at d_mine_at f_pairs_told d_pairs_told f_held_twice d_held_twice f_tap d_tap f_take d_take f_towns d_towns f_seats d_seats f_twos d_twos f_row d_row f_lot d_lot f_own d_own f_has d_has f_put d_put f_cast d_cast f_near d_near T_held_twice_wary) (F0 : Fun K "pairs_told" "pairs_told" st_pairs_told f fd)  : FnG P w K mg base (L2.CX P w) 1 f fd ["tells"] (spI K w XR 1 Lw.fn_pairs_told) := by
  refine okI (N := ["tells", "told", "_", "rights", "row"]) (ps := ["tells"]) (k := 0) (body := Lw.m_pairs_told) [false] F0 sc_pairs_told rfl (by decide) fun cdv A outer s H E hg hr => ?_
  have hu := hr.units
  have hu1 := hr.units1
  have tk : Takes (cxOf (L2.CX P w) P w K mg base ["tells", "told", "_", "rights", "row"] "pairs_told" (defScope st_pairs_told) f cdv A outer s H E) (fun cls d _ H' => E cls d H') := takes_of rfl rfl rfl rfl
  exact ss_cons (s_setDC2 (i := 1) (hy := rfl) (hyl := s_pairs_told_told) (hsw := sw_trueD rfl s_pairs_told_told rfl rfl) (n := 5) (names := [("_", 2), ("rights", 3), ("row", 4)]) (vs1 := [4]) (u9 hu) rfl sc_pairs_told.nd (i_seq (d_name (pe_var (i := 0) rfl (.inl s_pairs_told_tells)))) (blkOk_by (N := ["tells", "told", "_", "rights", "row"]) (sc := defScope st_pairs_told) (own := [("_", 2), ("rights", 3), ("row", 4)]) (by decide +kernel)) (fun _ _ _ _ _ => pg_tup (n := 2) rfl (pgs_cons (pg_name (i := 2) sc_pairs_told.nd rfl (.inl rfl)) (pgs_cons (pg_name (i := 3) sc_pairs_told.nd rfl (.inl rfl)) (pgs_nil)))) (g_tup (.cons (g_name) (.cons (g_name) (.nil)))) (fun _ _ _ _ _ => c_none) (fun _ _ _ _ _ => i_seq (d_ix (a_name (pe_var (i := 3) rfl (.inl rfl))) (a_of_d (d_int)) (fun _ _ => rfl))) (fun _ _ _ _ _ => pg_name (i := 4) sc_pairs_told.nd rfl (.inl rfl)) (g_name) (fun _ _ _ _ _ => c_none) (fun _ _ _ _ _ => d_ix (a_name (pe_var (i := 4) rfl (.inl rfl))) (a_of_d (d_int)) (fun _ _ => rfl)) (fun _ _ _ _ _ => d_bool)) (ss_one (s_ret (o_callTy co_tuple s_pairs_told_tuple Z.n_tuple b_tuple (l_cons (a_of_d (d_of_o (o_kcall (ck_sorted rfl hu) s_pairs_told_sorted Z.n_sorted b_sorted (pe_var (i := 1) rfl (.inl s_pairs_told_told))))) (l_nil)))))
theorem ok_held_twice {f : Addr} {fd : FuncData} (Z : Zs K mg f_home_of d_home_of f_row_of d_row_of f_holds d_holds f_is_mine d_is_mine f_mine_at d_mine_at f_pairs_told d_pairs_told f_held_twice d_held_twice f_tap d_tap f_take d_take f_towns d_towns f_seats d_seats f_twos d_twos f_row d_row f_lot d_lot f_own d_own f_has d_has f_put d_put f_cast d_cast f_near d_near T_held_twice_wary) (F0 : Fun K "held_twice" "held_twice" st_held_twice f fd) (F_pairs_told : FnG P w K mg base (L2.CX P w) 1 f_pairs_told d_pairs_told ["tells"] (spI K w XR 1 Lw.fn_pairs_told)) (F_mine_at : FnG P w K mg base (L2.CX P w) 4 f_mine_at d_mine_at ["tells", "pair"] (spI K w XR 2 Lw.fn_mine_at)) : FnG P w K mg base (L2.CX P w) 5 f fd ["tells", "wary"] (spI K w XR 2 Lw.fn_held_twice) := by
  refine okI (N := ["tells", "wary", "sure", "held", "town", "rights", "pair", "towns"]) (ps := ["tells", "wary"]) (k := 4) (body := Lw.m_held_twice) [false, false] F0 sc_held_twice rfl (by decide) fun cdv A outer s H E hg hr => ?_
  have hu := hr.units
  have hu1 := hr.units1
  have tk : Takes (cxOf (L2.CX P w) P w K mg base ["tells", "wary", "sure", "held", "town", "rights", "pair", "towns"] "held_twice" (defScope st_held_twice) f cdv A outer s H E) (fun cls d _ H' => E cls d H') := takes_of rfl rfl rfl rfl
  exact ss_cons (s_set (i := 2) sc_held_twice.nd rfl (.inr s_held_twice_sure) (o_comp (n := 8) (own := [("town", 4), ("rights", 5)]) rfl sc_held_twice.nd (i_seq (d_name (pe_var (i := 0) rfl (.inl s_held_twice_tells)))) (blkOk_by (N := ["tells", "wary", "sure", "held", "town", "rights", "pair", "towns"]) (sc := defScope st_held_twice) (own := [("town", 4), ("rights", 5)]) (by decide +kernel)) (fun _ _ _ _ _ => pg_tup (n := 2) rfl (pgs_cons (pg_name (i := 4) sc_held_twice.nd rfl (.inl rfl)) (pgs_cons (pg_name (i := 5) sc_held_twice.nd rfl (.inl rfl)) (pgs_nil)))) (g_tup (.cons (g_name) (.cons (g_name) (.nil)))) (fun _ _ _ _ _ => c_one (t_cmp (od_notIn hu) (a_name (pe_var (i := 4) rfl (.inl rfl))) (a_name (pe_var (i := 1) rfl (.inr (.inl (blk_look (sc := defScope st_held_twice) rfl (by decide +kernel)))))))) (fun _ _ _ _ _ => d_tup (l_cons (a_of_d (d_name (pe_var (i := 4) rfl (.inl rfl)))) (l_cons (a_of_d (d_name (pe_var (i := 5) rfl (.inl rfl)))) (l_nil)))))) (ss_cons (s_setC (n := 8) (own := [("pair", 6)]) (i := 3) rfl sc_held_twice.nd rfl s_held_twice_held (sw_true rfl s_held_twice_held rfl rfl) (i_seq (d_of_o (o_fn F_pairs_told hg (hr.mono (by decide)) s_held_twice_pairs_told Z.g_pairs_told Z.k_pairs_told Z.b_pairs_told tk (l_cons (a_of_d (d_name (pe_var (i := 0) rfl (.inl s_held_twice_tells)))) (l_nil)) rfl (ll_cons (ll_nil))))) (blkOk_by (N := ["tells", "wary", "sure", "held", "town", "rights", "pair", "towns"]) (sc := defScope st_held_twice) (own := [("pair", 6)]) (by decide +kernel)) (fun _ _ _ _ _ => pg_name (i := 6) sc_held_twice.nd rfl (.inl rfl)) (g_name) (fun _ _ _ _ _ => c_none) (fun _ _ _ _ _ => d_tup (l_cons (a_of_d (d_name (pe_var (i := 6) rfl (.inl rfl)))) (l_cons (a_of_d (d_of_o (o_fn F_mine_at hg (hr.mono (by decide)) (blk_gl (sc := defScope st_held_twice) rfl rfl (by decide +kernel)) Z.g_mine_at Z.k_mine_at Z.b_mine_at takes0 (l_cons (a_of_d (d_name (pe_var (i := 2) rfl (.inr (.inl (blk_look (sc := defScope st_held_twice) rfl (by decide +kernel))))))) (l_cons (a_of_d (d_name (pe_var (i := 6) rfl (.inl rfl)))) (l_nil))) rfl (ll_cons (ll_cons (ll_nil)))))) (l_nil))))) (ss_one (s_ret (o_callTy co_tuple s_held_twice_tuple Z.n_tuple b_tuple (l_cons (a_of_d (d_of_o (o_comp (n := 8) (own := [("pair", 6), ("towns", 7)]) rfl sc_held_twice.nd (i_seq (d_name (pe_var (i := 3) rfl (.inl s_held_twice_held)))) (blkOk_by (N := ["tells", "wary", "sure", "held", "town", "rights", "pair", "towns"]) (sc := defScope st_held_twice) (own := [("pair", 6), ("towns", 7)]) (by decide +kernel)) (fun _ _ _ _ _ => pg_tup (n := 2) rfl (pgs_cons (pg_name (i := 6) sc_held_twice.nd rfl (.inl rfl)) (pgs_cons (pg_name (i := 7) sc_held_twice.nd rfl (.inl rfl)) (pgs_nil)))) (g_tup (.cons (g_name) (.cons (g_name) (.nil)))) (fun _ _ _ _ _ => c_one (t_cmp (od_gt hu) (a_of_d (d_of_o (o_call co_len (blk_gl (sc := defScope st_held_twice) rfl rfl (by decide +kernel)) Z.n_len b_len (l_cons (a_name (pe_var (i := 7) rfl (.inl rfl))) (l_nil))))) (a_of_d (d_int)))) (fun _ _ _ _ _ => d_tup (l_cons (a_of_d (d_name (pe_var (i := 6) rfl (.inl rfl)))) (l_cons (a_of_d (d_name (pe_var (i := 7) rfl (.inl rfl)))) (l_nil))))))) (l_nil))))))
theorem ok_tap {f : Addr} {fd : FuncData} (Z : Zs K mg f_home_of d_home_of f_row_of d_row_of f_holds d_holds f_is_mine d_is_mine f_mine_at d_mine_at f_pairs_told d_pairs_told f_held_twice d_held_twice f_tap d_tap f_take d_take f_towns d_towns f_seats d_seats f_twos d_twos f_row d_row f_lot d_lot f_own d_own f_has d_has f_put d_put f_cast d_cast f_near d_near T_held_twice_wary) (F0 : Fun K "_law_tap" "_law_tap" st_tap f fd)  : FnG P w K mg base (L2.CX P w) 1 f fd ["script"] (spI K w XR 1 Lw.fn_tap) := by
  refine okI (N := ["script"]) (ps := ["script"]) (k := 0) (body := Lw.m_tap) [false] F0 sc_tap rfl (by decide) fun cdv A outer s H E hg hr => ?_
  have hu := hr.units
  have hu1 := hr.units1
  have tk : Takes (cxOf (L2.CX P w) P w K mg base ["script"] "_law_tap" (defScope st_tap) f cdv A outer s H E) (fun cls d _ H' => E cls d H') := takes_of rfl rfl rfl rfl
  exact ss_one (s_ret (o_disp (pp_cons (d_of_o (o_callTy co_list s_tap_list Z.n_list b_list (l_cons (a_of_d (d_of_o (o_scr (pe_var (i := 0) rfl (.inl s_tap_script)) (pt_none) (pt_some (d_int))))) (l_nil)))) (pp_cons (d_int) (pp_cons (d_int) (pp_cons (d_int) (pp_nil)))))))
theorem ok_take {f : Addr} {fd : FuncData} (Z : Zs K mg f_home_of d_home_of f_row_of d_row_of f_holds d_holds f_is_mine d_is_mine f_mine_at d_mine_at f_pairs_told d_pairs_told f_held_twice d_held_twice f_tap d_tap f_take d_take f_towns d_towns f_seats d_seats f_twos d_twos f_row d_row f_lot d_lot f_own d_own f_has d_has f_put d_put f_cast d_cast f_near d_near T_held_twice_wary) (F0 : Fun K "_law_take" "_law_take" st_take f fd)  : FnG P w K mg base (L2.CX P w) 1 f fd ["tap", "many"] (spI K w XR 2 Lw.fn_take) := by
  refine okI (N := ["tap", "many", "calls", "figure", "spot", "cells", "cell", "once"]) (ps := ["tap", "many"]) (k := 0) (body := Lw.m_take) [true, false] F0 sc_take rfl (by decide) fun cdv A outer s H E hg hr => ?_
  have hu := hr.units
  have hu1 := hr.units1
  have tk : Takes (cxOf (L2.CX P w) P w K mg base ["tap", "many", "calls", "figure", "spot", "cells", "cell", "once"] "_law_take" (defScope st_take) f cdv A outer s H E) (fun cls d _ H' => E cls d H') := takes_of rfl rfl rfl rfl
  exact ss_cons (s_set (i := 2) sc_take.nd rfl (.inl s_take_calls) (o_op ao_add (a_of_d (d_dget hu1 (pe_var (i := 0) rfl (.inl s_take_tap)) (d_str) (fun _ _ => rfl))) (a_of_d (d_int)))) (ss_cons (s_put hu1 (pe_var (i := 0) rfl (.inl s_take_tap)) (d_str) (d_name (pe_var (i := 2) rfl (.inl s_take_calls)))) (ss_cons (s_if (t_cmp (od_gt hu) (a_of_d (d_dget hu1 (pe_var (i := 0) rfl (.inl s_take_tap)) (d_str) (fun _ _ => rfl))) (a_of_d (d_int))) (ss_cons (s_set (i := 3) sc_take.nd rfl (.inl s_take_figure) (o_of_d (d_op od_mod (a_of_d (d_dget hu1 (pe_var (i := 0) rfl (.inl s_take_tap)) (d_str) (fun _ _ => rfl))) (a_name (pe_var (i := 1) rfl (.inl s_take_many)))))) (ss_cons (s_put hu1 (pe_var (i := 0) rfl (.inl s_take_tap)) (d_str) (d_op od_floor (a_of_d (d_dget hu1 (pe_var (i := 0) rfl (.inl s_take_tap)) (d_str) (fun _ _ => rfl))) (a_name (pe_var (i := 1) rfl (.inl s_take_many))))) (ss_one (s_ret (o_take (pe_var (i := 3) rfl (.inl s_take_figure))))))) (ss_nil)) (ss_cons (s_set (i := 4) sc_take.nd rfl (.inl s_take_spot) (o_of_d (d_dget hu1 (pe_var (i := 0) rfl (.inl s_take_tap)) (d_str) (fun _ _ => rfl)))) (ss_cons (s_put hu1 (pe_var (i := 0) rfl (.inl s_take_tap)) (d_str) (d_of_o (o_op ao_add (a_name (pe_var (i := 4) rfl (.inl s_take_spot))) (a_of_d (d_int))))) (ss_cons (s_set (i := 5) sc_take.nd rfl (.inl s_take_cells) (o_of_d (d_dget hu1 (pe_var (i := 0) rfl (.inl s_take_tap)) (d_str) (fun _ _ => rfl)))) (ss_cons (s_set (i := 6) sc_take.nd rfl (.inl s_take_cell) (o_if (t_cmp (od_gt hu) (a_of_d (d_of_o (o_call co_len s_take_len Z.n_len b_len (l_cons (a_name (pe_var (i := 5) rfl (.inl s_take_cells))) (l_nil))))) (a_of_d (d_int))) (o_of_d (d_ix (a_name (pe_var (i := 5) rfl (.inl s_take_cells))) (a_of_d (d_op od_mod (a_name (pe_var (i := 4) rfl (.inl s_take_spot))) (a_of_d (d_of_o (o_call co_len s_take_len Z.n_len b_len (l_cons (a_name (pe_var (i := 5) rfl (.inl s_take_cells))) (l_nil))))))) (fun _ _ => rfl))) (o_of_d (d_int)))) (ss_cons (s_if (t_w (w_and (t_cmp (od_lt hu) (a_name (pe_var (i := 4) rfl (.inl s_take_spot))) (a_of_d (d_of_o (o_call co_len s_take_len Z.n_len b_len (l_cons (a_name (pe_var (i := 5) rfl (.inl s_take_cells))) (l_nil)))))) (w_one1 (t_cmp (od_ge hu) (a_name (pe_var (i := 6) rfl (.inl s_take_cell))) (a_of_d (d_op od_pow (a_of_d (d_int)) (a_of_d (d_int)))))))) (ss_cons (s_put hu1 (pe_var (i := 0) rfl (.inl s_take_tap)) (d_str) (d_op od_floor (a_name (pe_var (i := 6) rfl (.inl s_take_cell))) (a_name (pe_var (i := 1) rfl (.inl s_take_many))))) (ss_one (s_ret (o_of_d (d_op od_mod (a_name (pe_var (i := 6) rfl (.inl s_take_cell))) (a_name (pe_var (i := 1) rfl (.inl s_take_many)))))))) (ss_nil)) (ss_cons (s_set (i := 7) sc_take.nd rfl (.inl s_take_once) (o_of_d (d_op od_mod (a_of_d (d_op od_pow (a_of_d (d_of_o (o_op ao_add (a_of_d (d_of_o (o_op ao_add (a_of_d (d_op od_mod (a_name (pe_var (i := 6) rfl (.inl s_take_cell))) (a_of_d (d_int)))) (a_of_d (d_of_o (o_op ao_mul (a_of_d (d_int)) (a_name (pe_var (i := 2) rfl (.inl s_take_calls))))))))) (a_of_d (d_int))))) (a_of_d (d_int)))) (a_of_d (d_int))))) (ss_one (s_ret (o_of_d (d_op od_mod (a_of_d (d_op od_floor (a_of_d (d_op od_mod (a_of_d (d_op od_pow (a_of_d (d_of_o (o_op ao_add (a_name (pe_var (i := 7) rfl (.inl s_take_once))) (a_of_d (d_of_o (o_op ao_mul (a_of_d (d_of_o (o_op ao_mul (a_of_d (d_int)) (a_name (pe_var (i := 2) rfl (.inl s_take_calls)))))) (a_name (pe_var (i := 2) rfl (.inl s_take_calls))))))))) (a_of_d (d_int)))) (a_of_d (d_int)))) (a_of_d (d_int)))) (a_name (pe_var (i := 1) rfl (.inl s_take_many)))))))))))))))
theorem ok_towns {f : Addr} {fd : FuncData} (Z : Zs K mg f_home_of d_home_of f_row_of d_row_of f_holds d_holds f_is_mine d_is_mine f_mine_at d_mine_at f_pairs_told d_pairs_told f_held_twice d_held_twice f_tap d_tap f_take d_take f_towns d_towns f_seats d_seats f_twos d_twos f_row d_row f_lot d_lot f_own d_own f_has d_has f_put d_put f_cast d_cast f_near d_near T_held_twice_wary) (F0 : Fun K "_law_towns" "_law_towns" st_towns f fd) (F_take : FnG P w K mg base (L2.CX P w) 1 f_take d_take ["tap", "many"] (spI K w XR 2 Lw.fn_take)) : FnG P w K mg base (L2.CX P w) 2 f fd ["tap", "least"] (spI K w XR 2 Lw.fn_towns) := by
  refine okI (N := ["tap", "least", "pool", "many"]) (ps := ["tap", "least"]) (k := 1) (body := Lw.m_towns) [true, false] F0 sc_towns rfl (by decide) fun cdv A outer s H E hg hr => ?_
  have hu := hr.units
  have hu1 := hr.units1
  have tk : Takes (cxOf (L2.CX P w) P w K mg base ["tap", "least", "pool", "many"] "_law_towns" (defScope st_towns) f cdv A outer s H E) (fun cls d _ H' => E cls d H') := takes_of rfl rfl rfl rfl
  exact ss_cons (s_set (i := 2) sc_towns.nd rfl (.inl s_towns_pool) (o_lst (l_cons (a_of_d (d_str)) (l_cons (a_of_d (d_str)) (l_cons (a_of_d (d_str)) (l_cons (a_of_d (d_str)) (l_cons (a_of_d (d_str)) (l_nil)))))))) (ss_cons (s_set (i := 3) sc_towns.nd rfl (.inl s_towns_many) (o_call (co_min rfl hu) s_towns_min Z.n_min b_min (l_cons (a_of_d (d_int)) (l_cons (a_of_d (d_of_o (o_op ao_add (a_name (pe_var (i := 1) rfl (.inl s_towns_least))) (a_of_d (d_of_o (o_fnO F_take hg (hr.mono (by decide)) s_towns__law_take Z.g_take Z.k_take Z.b_take tk (l_cons (a_name (pe_var (i := 0) rfl (.inl s_towns_tap))) (l_cons (a_of_d (d_int)) (l_nil))) rfl (ll_cons (ll_cons (ll_nil))))))))) (l_nil))))) (ss_cons (s_while 100 (passes_of rfl) (t_cmp (od_gt hu) (a_of_d (d_of_o (o_call co_len s_towns_len Z.n_len b_len (l_cons (a_name (pe_var (i := 2) rfl (.inl s_towns_pool))) (l_nil))))) (a_name (pe_var (i := 3) rfl (.inl s_towns_many)))) (ss_one (s_expr (x_popAt (pe_var (i := 2) rfl (.inl s_towns_pool)) (d_of_o (o_fnO F_take hg (hr.mono (by decide)) s_towns__law_take Z.g_take Z.k_take Z.b_take tk (l_cons (a_name (pe_var (i := 0) rfl (.inl s_towns_tap))) (l_cons (a_of_d (d_of_o (o_call co_len s_towns_len Z.n_len b_len (l_cons (a_name (pe_var (i := 2) rfl (.inl s_towns_pool))) (l_nil))))) (l_nil))) rfl (ll_cons (ll_cons (ll_nil))))))))) (ss_one (s_ret (o_take (pe_var (i := 2) rfl (.inl s_towns_pool)))))))
theorem ok_seats {f : Addr} {fd : FuncData} (Z : Zs K mg f_home_of d_home_of f_row_of d_row_of f_holds d_holds f_is_mine d_is_mine f_mine_at d_mine_at f_pairs_told d_pairs_told f_held_twice d_held_twice f_tap d_tap f_take d_take f_towns d_towns f_seats d_seats f_twos d_twos f_row d_row f_lot d_lot f_own d_own f_has d_has f_put d_put f_cast d_cast f_near d_near T_held_twice_wary) (F0 : Fun K "_law_seats" "_law_seats" st_seats f fd) (F_take : FnG P w K mg base (L2.CX P w) 1 f_take d_take ["tap", "many"] (spI K w XR 2 Lw.fn_take)) : FnG P w K mg base (L2.CX P w) 2 f fd ["tap", "towns", "many"] (spI K w XR 3 Lw.fn_seats) := by
  refine okI (N := ["tap", "towns", "many", "pool", "found", "place", "k", "word"]) (ps := ["tap", "towns", "many"]) (k := 1) (body := Lw.m_seats) [true, false, false] F0 sc_seats rfl (by decide) fun cdv A outer s H E hg hr => ?_
  have hu := hr.units
  have hu1 := hr.units1
  have tk : Takes (cxOf (L2.CX P w) P w K mg base ["tap", "towns", "many", "pool", "found", "place", "k", "word"] "_law_seats" (defScope st_seats) f cdv A outer s H E) (fun cls d _ H' => E cls d H') := takes_of rfl rfl rfl rfl
  exact ss_cons (s_par rfl sc_seats.nd rfl rfl s_seats_pool s_seats_found (o_lst (l_nil)) (o_lst (l_nil))) (ss_cons (s_for (n := 8) (passes_of rfl) rfl (i_seq (d_name (pe_var (i := 1) rfl (.inl s_seats_towns)))) (pg_name (i := 5) sc_seats.nd rfl (.inr s_seats_place)) (g_name) (ss_one (s_set (i := 3) sc_seats.nd rfl (.inl s_seats_pool) (o_op ao_add (a_name (pe_var (i := 3) rfl (.inl s_seats_pool))) (a_of_d (d_of_o (o_comp (n := 8) (own := [("word", 7)]) rfl sc_seats.nd (i_seq (d_of_o (o_lst (l_cons (a_of_d (d_str)) (l_cons (a_of_d (d_str)) (l_cons (a_of_d (d_str)) (l_nil))))))) (blkOk_by (N := ["tap", "towns", "many", "pool", "found", "place", "k", "word"]) (sc := defScope st_seats) (own := [("word", 7)]) (by decide +kernel)) (fun _ _ _ _ _ => pg_name (i := 7) sc_seats.nd rfl (.inl rfl)) (g_name) (fun _ _ _ _ _ => c_none) (fun _ _ _ _ _ => d_tup (l_cons (a_of_d (d_name (pe_var (i := 5) rfl (.inr (.inl (blk_look (sc := defScope st_seats) rfl (by decide +kernel))))))) (l_cons (a_of_d (d_name (pe_var (i := 7) rfl (.inl rfl)))) (l_nil))))))))))) (ss_cons (s_for (n := 8) (passes_of rfl) rfl (i_range1 s_seats_range Z.n_range (l_cons (a_of_d (d_of_o (o_call (co_min rfl hu) s_seats_min Z.n_min b_min (l_cons (a_name (pe_var (i := 2) rfl (.inl s_seats_many))) (l_cons (a_of_d (d_of_o (o_call co_len s_seats_len Z.n_len b_len (l_cons (a_name (pe_var (i := 3) rfl (.inl s_seats_pool))) (l_nil))))) (l_nil)))))) (l_nil))) (pg_name (i := 6) sc_seats.nd rfl (.inl s_seats_k)) (g_name) (ss_one (s_expr (x_append (pe_var (i := 4) rfl (.inl s_seats_found)) (x_popAt (pe_var (i := 3) rfl (.inl s_seats_pool)) (d_of_o (o_fnO F_take hg (hr.mono (by decide)) s_seats__law_take Z.g_take Z.k_take Z.b_take tk (l_cons (a_name (pe_var (i := 0) rfl (.inl s_seats_tap))) (l_cons (a_of_d (d_of_o (o_call co_len s_seats_len Z.n_len b_len (l_cons (a_name (pe_var (i := 3) rfl (.inl s_seats_pool))) (l_nil))))) (l_nil))) rfl (ll_cons (ll_cons (ll_nil)))))))))) (ss_one (s_ret (o_take (pe_var (i := 4) rfl (.inl s_seats_found)))))))
theorem ok_twos {f : Addr} {fd : FuncData} (Z : Zs K mg f_home_of d_home_of f_row_of d_row_of f_holds d_holds f_is_mine d_is_mine f_mine_at d_mine_at f_pairs_told d_pairs_told f_held_twice d_held_twice f_tap d_tap f_take d_take f_towns d_towns f_seats d_seats f_twos d_twos f_row d_row f_lot d_lot f_own d_own f_has d_has f_put d_put f_cast d_cast f_near d_near T_held_twice_wary) (F0 : Fun K "_law_twos" "_law_twos" st_twos f fd)  : FnG P w K mg base (L2.CX P w) 1 f fd ["people"] (spI K w XR 1 Lw.fn_twos) := by
  refine okI (N := ["people", "found", "k", "other"]) (ps := ["people"]) (k := 0) (body := Lw.m_twos) [false] F0 sc_twos rfl (by decide) fun cdv A outer s H E hg hr => ?_
  have hu := hr.units
  have hu1 := hr.units1
  have tk : Takes (cxOf (L2.CX P w) P w K mg base ["people", "found", "k", "other"] "_law_twos" (defScope st_twos) f cdv A outer s H E) (fun cls d _ H' => E cls d H') := takes_of rfl rfl rfl rfl
  exact ss_cons (s_set (i := 1) sc_twos.nd rfl (.inl s_twos_found) (o_lst (l_nil))) (ss_cons (s_for (n := 4) (passes_of rfl) rfl (i_range1 s_twos_range Z.n_range (l_cons (a_of_d (d_of_o (o_call co_len s_twos_len Z.n_len b_len (l_cons (a_name (pe_var (i := 0) rfl (.inr (.inl s_twos_people)))) (l_nil))))) (l_nil))) (pg_name (i := 2) sc_twos.nd rfl (.inr s_twos_k)) (g_name) (ss_one (s_set (i := 1) sc_twos.nd rfl (.inl s_twos_found) (o_op ao_add (a_name (pe_var (i := 1) rfl (.inl s_twos_found))) (a_of_d (d_of_o (o_comp (n := 4) (own := [("other", 3)]) rfl sc_twos.nd (i_seq (d_of_o (o_sl (a_name (pe_var (i := 0) rfl (.inr (.inl s_twos_people)))) (pt_some (d_of_o (o_op ao_add (a_name (pe_var (i := 2) rfl (.inr (.inl s_twos_k)))) (a_of_d (d_int))))) (pt_none)))) (blkOk_by (N := ["people", "found", "k", "other"]) (sc := defScope st_twos) (own := [("other", 3)]) (by decide +kernel)) (fun _ _ _ _ _ => pg_name (i := 3) sc_twos.nd rfl (.inl rfl)) (g_name) (fun _ _ _ _ _ => c_none) (fun _ _ _ _ _ => d_tup (l_cons (a_of_d (d_of_o (o_call (co_min rfl hu) (blk_gl (sc := defScope st_twos) rfl rfl (by decide +kernel)) Z.n_min b_min (l_cons (a_of_d (d_ix (a_name (pe_var (i := 0) rfl (.inr (.inl (blk_look (sc := defScope st_twos) rfl (by decide +kernel)))))) (a_name (pe_var (i := 2) rfl (.inr (.inl (blk_look (sc := defScope st_twos) rfl (by decide +kernel)))))) (fun _ _ => rfl))) (l_cons (a_name (pe_var (i := 3) rfl (.inl rfl))) (l_nil)))))) (l_cons (a_of_d (d_of_o (o_call (co_max rfl hu) (blk_gl (sc := defScope st_twos) rfl rfl (by decide +kernel)) Z.n_max b_max (l_cons (a_of_d (d_ix (a_name (pe_var (i := 0) rfl (.inr (.inl (blk_look (sc := defScope st_twos) rfl (by decide +kernel)))))) (a_name (pe_var (i := 2) rfl (.inr (.inl (blk_look (sc := defScope st_twos) rfl (by decide +kernel)))))) (fun _ _ => rfl))) (l_cons (a_name (pe_var (i := 3) rfl (.inl rfl))) (l_nil)))))) (l_nil))))))))))) (ss_one (s_ret (o_call (co_sorted hu) s_twos_sorted Z.n_sorted b_sorted (l_cons (a_name (pe_var (i := 1) rfl (.inl s_twos_found))) (l_nil))))))
theorem ok_row {f : Addr} {fd : FuncData} (Z : Zs K mg f_home_of d_home_of f_row_of d_row_of f_holds d_holds f_is_mine d_is_mine f_mine_at d_mine_at f_pairs_told d_pairs_told f_held_twice d_held_twice f_tap d_tap f_take d_take f_towns d_towns f_seats d_seats f_twos d_twos f_row d_row f_lot d_lot f_own d_own f_has d_has f_put d_put f_cast d_cast f_near d_near T_held_twice_wary) (F0 : Fun K "_law_row" "_law_row" st_row f fd) (F_take : FnG P w K mg base (L2.CX P w) 1 f_take d_take ["tap", "many"] (spI K w XR 2 Lw.fn_take)) : FnG P w K mg base (L2.CX P w) 2 f fd ["tap", "pair", "towns"] (spI K w XR 3 Lw.fn_row) := by
  refine okI (N := ["tap", "pair", "towns", "stamp", "place", "giver"]) (ps := ["tap", "pair", "towns"]) (k := 1) (body := Lw.m_row) [true, false, false] F0 sc_row rfl (by decide) fun cdv A outer s H E hg hr => ?_
  have hu := hr.units
  have hu1 := hr.units1
  have tk : Takes (cxOf (L2.CX P w) P w K mg base ["tap", "pair", "towns", "stamp", "place", "giver"] "_law_row" (defScope st_row) f cdv A outer s H E) (fun cls d _ H' => E cls d H') := takes_of rfl rfl rfl rfl
  exact ss_cons (s_set (i := 3) sc_row.nd rfl (.inl s_row_stamp) (o_of_d (d_tup (l_cons (a_of_d (d_of_o (o_fnO F_take hg (hr.mono (by decide)) s_row__law_take Z.g_take Z.k_take Z.b_take tk (l_cons (a_name (pe_var (i := 0) rfl (.inl s_row_tap))) (l_cons (a_of_d (d_int)) (l_nil))) rfl (ll_cons (ll_cons (ll_nil)))))) (l_cons (a_of_d (d_of_o (o_fnO F_take hg (hr.mono (by decide)) s_row__law_take Z.g_take Z.k_take Z.b_take tk (l_cons (a_name (pe_var (i := 0) rfl (.inl s_row_tap))) (l_cons (a_of_d (d_int)) (l_nil))) rfl (ll_cons (ll_cons (ll_nil)))))) (l_nil)))))) (ss_cons (s_par rfl sc_row.nd rfl rfl s_row_place s_row_giver (o_of_d (d_ix (a_name (pe_var (i := 2) rfl (.inl s_row_towns))) (a_of_d (d_of_o (o_fnO F_take hg (hr.mono (by decide)) s_row__law_take Z.g_take Z.k_take Z.b_take tk (l_cons (a_name (pe_var (i := 0) rfl (.inl s_row_tap))) (l_cons (a_of_d (d_of_o (o_call co_len s_row_len Z.n_len b_len (l_cons (a_name (pe_var (i := 2) rfl (.inl s_row_towns))) (l_nil))))) (l_nil))) rfl (ll_cons (ll_cons (ll_nil)))))) (fun _ _ => rfl))) (o_of_d (d_ix (a_name (pe_var (i := 2) rfl (.inl s_row_towns))) (a_of_d (d_of_o (o_fnO F_take hg (hr.mono (by decide)) s_row__law_take Z.g_take Z.k_take Z.b_take tk (l_cons (a_name (pe_var (i := 0) rfl (.inl s_row_tap))) (l_cons (a_of_d (d_of_o (o_call co_len s_row_len Z.n_len b_len (l_cons (a_name (pe_var (i := 2) rfl (.inl s_row_towns))) (l_nil))))) (l_nil))) rfl (ll_cons (ll_cons (ll_nil)))))) (fun _ _ => rfl)))) (ss_one (s_ret (o_of_d (d_tup (l_cons (a_of_d (d_name (pe_var (i := 1) rfl (.inl s_row_pair)))) (l_cons (a_of_d (d_name (pe_var (i := 3) rfl (.inl s_row_stamp)))) (l_cons (a_of_d (d_name (pe_var (i := 4) rfl (.inl s_row_place)))) (l_cons (a_of_d (d_name (pe_var (i := 5) rfl (.inl s_row_giver)))) (l_cons (a_of_d (d_of_o (o_fnO F_take hg (hr.mono (by decide)) s_row__law_take Z.g_take Z.k_take Z.b_take tk (l_cons (a_name (pe_var (i := 0) rfl (.inl s_row_tap))) (l_cons (a_of_d (d_int)) (l_nil))) rfl (ll_cons (ll_cons (ll_nil)))))) (l_cons (a_of_d (d_of_o (o_fnO F_take hg (hr.mono (by decide)) s_row__law_take Z.g_take Z.k_take Z.b_take tk (l_cons (a_name (pe_var (i := 0) rfl (.inl s_row_tap))) (l_cons (a_of_d (d_int)) (l_nil))) rfl (ll_cons (ll_cons (ll_nil)))))) (l_cons (a_of_d (d_cmp (od_eq hu) (a_of_d (d_of_o (o_fnO F_take hg (hr.mono (by decide)) s_row__law_take Z.g_take Z.k_take Z.b_take tk (l_cons (a_name (pe_var (i := 0) rfl (.inl s_row_tap))) (l_cons (a_of_d (d_int)) (l_nil))) rfl (ll_cons (ll_cons (ll_nil)))))) (a_of_d (d_int)))) (l_nil)))))))))))))
theorem ok_lot {f : Addr} {fd : FuncData} (Z : Zs K mg f_home_of d_home_of f_row_of d_row_of f_holds d_holds f_is_mine d_is_mine f_mine_at d_mine_at f_pairs_told d_pairs_told f_held_twice d_held_twice f_tap d_tap f_take d_take f_towns d_towns f_seats d_seats f_twos d_twos f_row d_row f_lot d_lot f_own d_own f_has d_has f_put d_put f_cast d_cast f_near d_near T_held_twice_wary) (F0 : Fun K "_law_lot" "_law_lot" st_lot f fd) (F_take : FnG P w K mg base (L2.CX P w) 1 f_take d_take ["tap", "many"] (spI K w XR 2 Lw.fn_take)) (F_row : FnG P w K mg base (L2.CX P w) 2 f_row d_row ["tap", "pair", "towns"] (spI K w XR 3 Lw.fn_row)) : FnG P w K mg base (L2.CX P w) 3 f fd ["tap", "pairs", "towns"] (spI K w XR 3 Lw.fn_lot) := by
  refine okI (N := ["tap", "pairs", "towns", "rows", "pair"]) (ps := ["tap", "pairs", "towns"]) (k := 2) (body := Lw.m_lot) [true, false, false] F0 sc_lot rfl (by decide) fun cdv A outer s H E hg hr => ?_
  have hu := hr.units
  have hu1 := hr.units1
  have tk : Takes (cxOf (L2.CX P w) P w K mg base ["tap", "pairs", "towns", "rows", "pair"] "_law_lot" (defScope st_lot) f cdv A outer s H E) (fun cls d _ H' => E cls d H') := takes_of rfl rfl rfl rfl
  exact ss_cons (s_set (i := 3) sc_lot.nd rfl (.inl s_lot_rows) (o_callTy co_tuple s_lot_tuple Z.n_tuple b_tuple (l_cons (a_of_d (d_of_o (o_comp (n := 5) (own := [("pair", 4)]) rfl sc_lot.nd (i_seq (d_name (pe_var (i := 1) rfl (.inl s_lot_pairs)))) (blkOk_by (N := ["tap", "pairs", "towns", "rows", "pair"]) (sc := defScope st_lot) (own := [("pair", 4)]) (by decide +kernel)) (fun _ _ _ _ _ => pg_name (i := 4) sc_lot.nd rfl (.inl rfl)) (g_name) (fun _ _ _ _ _ => c_one (t_cmp (od_gt hu) (a_of_d (d_of_o (o_fnO F_take hg (hr.mono (by decide)) (blk_gl (sc := defScope st_lot) rfl rfl (by decide +kernel)) Z.g_take Z.k_take Z.b_take takes0 (l_cons (a_name (pe_var (i := 0) rfl (.inr (.inl (blk_look (sc := defScope st_lot) rfl (by decide +kernel)))))) (l_cons (a_of_d (d_int)) (l_nil))) rfl (ll_cons (ll_cons (ll_nil)))))) (a_of_d (d_int)))) (fun _ _ _ _ _ => d_of_o (o_fnO F_row hg (hr.mono (by decide)) (blk_gl (sc := defScope st_lot) rfl rfl (by decide +kernel)) Z.g_row Z.k_row Z.b_row takes0 (l_cons (a_name (pe_var (i := 0) rfl (.inr (.inl (blk_look (sc := defScope st_lot) rfl (by decide +kernel)))))) (l_cons (a_of_d (d_name (pe_var (i := 4) rfl (.inl rfl)))) (l_cons (a_of_d (d_name (pe_var (i := 2) rfl (.inr (.inl (blk_look (sc := defScope st_lot) rfl (by decide +kernel))))))) (l_nil)))) rfl (ll_cons (ll_cons (ll_cons (ll_nil))))))))) (l_nil)))) (ss_one (s_ret (o_of_d (d_tup (l_cons (a_of_d (d_of_o (o_fnO F_take hg (hr.mono (by decide)) s_lot__law_take Z.g_take Z.k_take Z.b_take tk (l_cons (a_name (pe_var (i := 0) rfl (.inr (.inl s_lot_tap)))) (l_cons (a_of_d (d_int)) (l_nil))) rfl (ll_cons (ll_cons (ll_nil)))))) (l_cons (a_of_d (d_of_o (o_fnO F_take hg (hr.mono (by decide)) s_lot__law_take Z.g_take Z.k_take Z.b_take tk (l_cons (a_name (pe_var (i := 0) rfl (.inr (.inl s_lot_tap)))) (l_cons (a_of_d (d_int)) (l_nil))) rfl (ll_cons (ll_cons (ll_nil)))))) (l_cons (a_of_d (d_name (pe_var (i := 3) rfl (.inl s_lot_rows)))) (l_nil))))))))
theorem ok_own {f : Addr} {fd : FuncData} (Z : Zs K mg f_home_of d_home_of f_row_of d_row_of f_holds d_holds f_is_mine d_is_mine f_mine_at d_mine_at f_pairs_told d_pairs_told f_held_twice d_held_twice f_tap d_tap f_take d_take f_towns d_towns f_seats d_seats f_twos d_twos f_row d_row f_lot d_lot f_own d_own f_has d_has f_put d_put f_cast d_cast f_near d_near T_held_twice_wary) (F0 : Fun K "_law_own" "_law_own" st_own f fd)  : FnG P w K mg base (L2.CX P w) 1 f fd ["lot", "place", "pair"] (spI K w XR 3 Lw.fn_own) := by
  refine okI (N := ["lot", "place", "pair", "found", "home", "row"]) (ps := ["lot", "place", "pair"]) (k := 0) (body := Lw.m_own) [false, false, false] F0 sc_own rfl (by decide) fun cdv A outer s H E hg hr => ?_
  have hu := hr.units
  have hu1 := hr.units1
  have tk : Takes (cxOf (L2.CX P w) P w K mg base ["lot", "place", "pair", "found", "home", "row"] "_law_own" (defScope st_own) f cdv A outer s H E) (fun cls d _ H' => E cls d H') := takes_of rfl rfl rfl rfl
  exact ss_cons (s_setC (n := 6) (own := [("row", 5)]) (i := 3) rfl sc_own.nd rfl s_own_found (sw_true rfl s_own_found rfl rfl) (i_seq (d_ix (a_name (pe_var (i := 0) rfl (.inl s_own_lot))) (a_of_d (d_int)) (fun _ _ => rfl))) (blkOk_by (N := ["lot", "place", "pair", "found", "home", "row"]) (sc := defScope st_own) (own := [("row", 5)]) (by decide +kernel)) (fun _ _ _ _ _ => pg_name (i := 5) sc_own.nd rfl (.inl rfl)) (g_name) (fun _ _ _ _ _ => c_one (t_cmp (od_eq hu) (a_of_d (d_ix (a_name (pe_var (i := 5) rfl (.inl rfl))) (a_of_d (d_int)) (fun _ _ => rfl))) (a_name (pe_var (i := 2) rfl (.inr (.inl (blk_look (sc := defScope st_own) rfl (by decide +kernel)))))))) (fun _ _ _ _ _ => d_name (pe_var (i := 5) rfl (.inl rfl)))) (ss_cons (s_if (t_cmp (od_ne hu) (a_name (pe_var (i := 3) rfl (.inl s_own_found))) (a_of_d (d_of_o (o_lst (l_nil))))) (ss_one (s_ret (o_of_d (d_ix (a_name (pe_var (i := 3) rfl (.inl s_own_found))) (a_of_d (d_int)) (fun _ _ => rfl))))) (ss_nil)) (ss_cons (s_set (i := 4) sc_own.nd rfl (.inl s_own_home) (o_of_d (d_ix (a_of_d (d_ix (a_name (pe_var (i := 2) rfl (.inr (.inl s_own_pair)))) (a_of_d (d_int)) (fun _ _ => rfl))) (a_of_d (d_int)) (fun _ _ => rfl)))) (ss_cons (s_if (t_cmp (od_eq hu) (a_name (pe_var (i := 4) rfl (.inl s_own_home))) (a_name (pe_var (i := 1) rfl (.inl s_own_place)))) (ss_one (s_ret (o_of_d (d_tup (l_cons (a_of_d (d_name (pe_var (i := 2) rfl (.inr (.inl s_own_pair))))) (l_cons (a_of_d (d_tup (l_cons (a_of_d (d_ix (a_name (pe_var (i := 0) rfl (.inl s_own_lot))) (a_of_d (d_int)) (fun _ _ => rfl))) (l_cons (a_of_d (d_int)) (l_nil))))) (l_cons (a_of_d (d_name (pe_var (i := 4) rfl (.inl s_own_home)))) (l_cons (a_of_d (d_name (pe_var (i := 4) rfl (.inl s_own_home)))) (l_cons (a_of_d (d_int)) (l_cons (a_of_d (d_ix (a_name (pe_var (i := 0) rfl (.inl s_own_lot))) (a_of_d (d_int)) (fun _ _ => rfl))) (l_cons (a_of_d (d_bool)) (l_nil)))))))))))) (ss_nil)) (ss_one (s_ret (o_of_d (d_tup (l_cons (a_of_d (d_name (pe_var (i := 2) rfl (.inr (.inl s_own_pair))))) (l_cons (a_of_d (d_tup (l_cons (a_of_d (d_int)) (l_cons (a_of_d (d_int)) (l_nil))))) (l_cons (a_of_d (d_name (pe_var (i := 4) rfl (.inl s_own_home)))) (l_cons (a_of_d (d_name (pe_var (i := 4) rfl (.inl s_own_home)))) (l_cons (a_of_d (d_int)) (l_cons (a_of_d (d_int)) (l_cons (a_of_d (d_bool)) (l_nil)))))))))))))))
theorem ok_has {f : Addr} {fd : FuncData} (Z : Zs K mg f_home_of d_home_of f_row_of d_row_of f_holds d_holds f_is_mine d_is_mine f_mine_at d_mine_at f_pairs_told d_pairs_told f_held_twice d_held_twice f_tap d_tap f_take d_take f_towns d_towns f_seats d_seats f_twos d_twos f_row d_row f_lot d_lot f_own d_own f_has d_has f_put d_put f_cast d_cast f_near d_near T_held_twice_wary) (F0 : Fun K "_law_has" "_law_has" st_has f fd) (F_own : FnG P w K mg base (L2.CX P w) 1 f_own d_own ["lot", "place", "pair"] (spI K w XR 3 Lw.fn_own)) : FnG P w K mg base (L2.CX P w) 2 f fd ["lot", "place", "pair"] (spI K w XR 3 Lw.fn_has) := by
  refine okI (N := ["lot", "place", "pair", "row"]) (ps := ["lot", "place", "pair"]) (k := 1) (body := Lw.m_has) [false, false, false] F0 sc_has rfl (by decide) fun cdv A outer s H E hg hr => ?_
  have hu := hr.units
  have hu1 := hr.units1
  have tk : Takes (cxOf (L2.CX P w) P w K mg base ["lot", "place", "pair", "row"] "_law_has" (defScope st_has) f cdv A outer s H E) (fun cls d _ H' => E cls d H') := takes_of rfl rfl rfl rfl
  exact ss_cons (s_set (i := 3) sc_has.nd rfl (.inl s_has_row) (o_fn F_own hg (hr.mono (by decide)) s_has__law_own Z.g_own Z.k_own Z.b_own tk (l_cons (a_of_d (d_name (pe_var (i := 0) rfl (.inl s_has_lot)))) (l_cons (a_of_d (d_name (pe_var (i := 1) rfl (.inl s_has_place)))) (l_cons (a_of_d (d_name (pe_var (i := 2) rfl (.inl s_has_pair)))) (l_nil)))) rfl (ll_cons (ll_cons (ll_cons (ll_nil)))))) (ss_one (s_ret (o_of_d (d_and (d_cmp (od_eq hu) (a_of_d (d_ix (a_name (pe_var (i := 3) rfl (.inl s_has_row))) (a_of_d (d_int)) (fun _ _ => rfl))) (a_name (pe_var (i := 1) rfl (.inl s_has_place)))) (d_one (d_ix (a_name (pe_var (i := 3) rfl (.inl s_has_row))) (a_of_d (d_int)) (fun _ _ => rfl)))))))
theorem ok_put {f : Addr} {fd : FuncData} (Z : Zs K mg f_home_of d_home_of f_row_of d_row_of f_holds d_holds f_is_mine d_is_mine f_mine_at d_mine_at f_pairs_told d_pairs_told f_held_twice d_held_twice f_tap d_tap f_take d_take f_towns d_towns f_seats d_seats f_twos d_twos f_row d_row f_lot d_lot f_own d_own f_has d_has f_put d_put f_cast d_cast f_near d_near T_held_twice_wary) (F0 : Fun K "_law_put" "_law_put" st_put f fd)  : FnG P w K mg base (L2.CX P w) 1 f fd ["lot", "row"] (spI K w XR 2 Lw.fn_put) := by
  refine okI (N := ["lot", "row", "rest", "own"]) (ps := ["lot", "row"]) (k := 0) (body := Lw.m_put) [false, false] F0 sc_put rfl (by decide) fun cdv A outer s H E hg hr => ?_
  have hu := hr.units
  have hu1 := hr.units1
  have tk : Takes (cxOf (L2.CX P w) P w K mg base ["lot", "row", "rest", "own"] "_law_put" (defScope st_put) f cdv A outer s H E) (fun cls d _ H' => E cls d H') := takes_of rfl rfl rfl rfl
  exact ss_cons (s_setC (n := 4) (own := [("own", 3)]) (i := 2) rfl sc_put.nd rfl s_put_rest (sw_true rfl s_put_rest rfl rfl) (i_seq (d_ix (a_name (pe_var (i := 0) rfl (.inl s_put_lot))) (a_of_d (d_int)) (fun _ _ => rfl))) (blkOk_by (N := ["lot", "row", "rest", "own"]) (sc := defScope st_put) (own := [("own", 3)]) (by decide +kernel)) (fun _ _ _ _ _ => pg_name (i := 3) sc_put.nd rfl (.inl rfl)) (g_name) (fun _ _ _ _ _ => c_one (t_cmp (od_ne hu) (a_of_d (d_ix (a_name (pe_var (i := 3) rfl (.inl rfl))) (a_of_d (d_int)) (fun _ _ => rfl))) (a_of_d (d_ix (a_name (pe_var (i := 1) rfl (.inr (.inl (blk_look (sc := defScope st_put) rfl (by decide +kernel)))))) (a_of_d (d_int)) (fun _ _ => rfl))))) (fun _ _ _ _ _ => d_name (pe_var (i := 3) rfl (.inl rfl)))) (ss_one (s_ret (o_of_d (d_tup (l_cons (a_of_d (d_ix (a_name (pe_var (i := 0) rfl (.inl s_put_lot))) (a_of_d (d_int)) (fun _ _ => rfl))) (l_cons (a_of_d (d_ix (a_name (pe_var (i := 0) rfl (.inl s_put_lot))) (a_of_d (d_int)) (fun _ _ => rfl))) (l_cons (a_of_d (d_of_o (o_callTy co_tuple s_put_tuple Z.n_tuple b_tuple (l_cons (a_of_d (d_of_o (o_call (co_sorted hu) s_put_sorted Z.n_sorted b_sorted (l_cons (a_of_d (d_of_o (o_op ao_add (a_name (pe_var (i := 2) rfl (.inl s_put_rest))) (a_of_d (d_of_o (o_lst (l_cons (a_of_d (d_name (pe_var (i := 1) rfl (.inr (.inl s_put_row))))) (l_nil)))))))) (l_nil))))) (l_nil))))) (l_nil))))))))
theorem ok_cast {f : Addr} {fd : FuncData} (Z : Zs K mg f_home_of d_home_of f_row_of d_row_of f_holds d_holds f_is_mine d_is_mine f_mine_at d_mine_at f_pairs_told d_pairs_told f_held_twice d_held_twice f_tap d_tap f_take d_take f_towns d_towns f_seats d_seats f_twos d_twos f_row d_row f_lot d_lot f_own d_own f_has d_has f_put d_put f_cast d_cast f_near d_near T_held_twice_wary) (F0 : Fun K "_law_cast" "_law_cast" st_cast f fd) (F_take : FnG P w K mg base (L2.CX P w) 1 f_take d_take ["tap", "many"] (spI K w XR 2 Lw.fn_take)) (F_lot : FnG P w K mg base (L2.CX P w) 3 f_lot d_lot ["tap", "pairs", "towns"] (spI K w XR 3 Lw.fn_lot)) : FnG P w K mg base (L2.CX P w) 4 f fd ["tap", "towns", "pairs"] (spI K w XR 3 Lw.fn_cast) := by
  refine okI (N := ["tap", "towns", "pairs", "found", "name"]) (ps := ["tap", "towns", "pairs"]) (k := 3) (body := Lw.m_cast) [true, false, false] F0 sc_cast rfl (by decide) fun cdv A outer s H E hg hr => ?_
  have hu := hr.units
  have hu1 := hr.units1
  have tk : Takes (cxOf (L2.CX P w) P w K mg base ["tap", "towns", "pairs", "found", "name"] "_law_cast" (defScope st_cast) f cdv A outer s H E) (fun cls d _ H' => E cls d H') := takes_of rfl rfl rfl rfl
  exact ss_cons (s_set (i := 3) sc_cast.nd rfl (.inl s_cast_found) (o_lst (l_nil))) (ss_cons (s_for (n := 5) (passes_of rfl) rfl (i_seq (d_name (pe_var (i := 1) rfl (.inl s_cast_towns)))) (pg_name (i := 4) sc_cast.nd rfl (.inl s_cast_name)) (g_name) (ss_one (s_expr (x_append (pe_var (i := 3) rfl (.inl s_cast_found)) (d_tup (l_cons (a_of_d (d_name (pe_var (i := 4) rfl (.inl s_cast_name)))) (l_cons (a_of_d (d_if (t_cmp (od_eq hu) (a_of_d (d_of_o (o_fnO F_take hg (hr.mono (by decide)) s_cast__law_take Z.g_take Z.k_take Z.b_take tk (l_cons (a_name (pe_var (i := 0) rfl (.inl s_cast_tap))) (l_cons (a_of_d (d_int)) (l_nil))) rfl (ll_cons (ll_cons (ll_nil)))))) (a_of_d (d_int))) (d_tup (l_cons (a_of_d (d_int)) (l_cons (a_of_d (d_int)) (l_cons (a_of_d (d_tup (l_nil))) (l_nil))))) (d_of_o (o_fnO F_lot hg (hr.mono (by decide)) s_cast__law_lot Z.g_lot Z.k_lot Z.b_lot tk (l_cons (a_name (pe_var (i := 0) rfl (.inl s_cast_tap))) (l_cons (a_of_d (d_name (pe_var (i := 2) rfl (.inl s_cast_pairs)))) (l_cons (a_of_d (d_of_o (o_op ao_add (a_name (pe_var (i := 1) rfl (.inl s_cast_towns))) (a_of_d (d_of_o (o_lst (l_cons (a_of_d (d_str)) (l_nil)))))))) (l_nil)))) rfl (ll_cons (ll_cons (ll_cons (ll_nil)))))))) (l_nil)))))))) (ss_one (s_ret (o_callTy co_tuple s_cast_tuple Z.n_tuple b_tuple (l_cons (a_name (pe_var (i := 3) rfl (.inl s_cast_found))) (l_nil))))))
theorem ok_near {f : Addr} {fd : FuncData} (Z : Zs K mg f_home_of d_home_of f_row_of d_row_of f_holds d_holds f_is_mine d_is_mine f_mine_at d_mine_at f_pairs_told d_pairs_told f_held_twice d_held_twice f_tap d_tap f_take d_take f_towns d_towns f_seats d_seats f_twos d_twos f_row d_row f_lot d_lot f_own d_own f_has d_has f_put d_put f_cast d_cast f_near d_near T_held_twice_wary) (F0 : Fun K "_law_near" "_law_near" st_near f fd) (F_take : FnG P w K mg base (L2.CX P w) 1 f_take d_take ["tap", "many"] (spI K w XR 2 Lw.fn_take)) (F_put : FnG P w K mg base (L2.CX P w) 1 f_put d_put ["lot", "row"] (spI K w XR 2 Lw.fn_put)) : FnG P w K mg base (L2.CX P w) 2 f fd ["tap", "cast", "pairs"] (spI K w XR 3 Lw.fn_near) := by
  refine okI (N := ["tap", "cast", "pairs", "found", "name", "lot", "pair"]) (ps := ["tap", "cast", "pairs"]) (k := 1) (body := Lw.m_near) [true, false, false] F0 sc_near rfl (by decide) fun cdv A outer s H E hg hr => ?_
  have hu := hr.units
  have hu1 := hr.units1
  have tk : Takes (cxOf (L2.CX P w) P w K mg base ["tap", "cast", "pairs", "found", "name", "lot", "pair"] "_law_near" (defScope st_near) f cdv A outer s H E) (fun cls d _ H' => E cls d H') := takes_of rfl rfl rfl rfl
  exact ss_cons (s_set (i := 3) sc_near.nd rfl (.inl s_near_found) (o_lst (l_nil))) (ss_cons (s_for (n := 7) (passes_of rfl) rfl (i_seq (d_name (pe_var (i := 1) rfl (.inl s_near_cast)))) (pg_tup (n := 2) rfl (pgs_cons (pg_name (i := 4) sc_near.nd rfl (.inl s_near_name)) (pgs_cons (pg_name (i := 5) sc_near.nd rfl (.inl s_near_lot)) (pgs_nil)))) (g_tup (.cons (g_name) (.cons (g_name) (.nil)))) (ss_cons (s_for (n := 7) (passes_of rfl) rfl (i_seq (d_name (pe_var (i := 2) rfl (.inl s_near_pairs)))) (pg_name (i := 6) sc_near.nd rfl (.inl s_near_pair)) (g_name) (ss_one (s_if (t_cmp (od_eq hu) (a_of_d (d_of_o (o_fnO F_take hg (hr.mono (by decide)) s_near__law_take Z.g_take Z.k_take Z.b_take tk (l_cons (a_name (pe_var (i := 0) rfl (.inl s_near_tap))) (l_cons (a_of_d (d_int)) (l_nil))) rfl (ll_cons (ll_cons (ll_nil)))))) (a_of_d (d_int))) (ss_one (s_set (i := 5) sc_near.nd rfl (.inl s_near_lot) (o_fn F_put hg (hr.mono (by decide)) s_near__law_put Z.g_put Z.k_put Z.b_put tk (l_cons (a_of_d (d_name (pe_var (i := 5) rfl (.inl s_near_lot)))) (l_cons (a_of_d (d_tup (l_cons (a_of_d (d_name (pe_var (i := 6) rfl (.inl s_near_pair)))) (l_cons (a_of_d (d_tup (l_cons (a_of_d (d_int)) (l_cons (a_of_d (d_of_o (o_fnO F_take hg (hr.mono (by decide)) s_near__law_take Z.g_take Z.k_take Z.b_take tk (l_cons (a_name (pe_var (i := 0) rfl (.inl s_near_tap))) (l_cons (a_of_d (d_int)) (l_nil))) rfl (ll_cons (ll_cons (ll_nil)))))) (l_nil))))) (l_cons (a_of_d (d_name (pe_var (i := 4) rfl (.inl s_near_name)))) (l_cons (a_of_d (d_str)) (l_cons (a_of_d (d_int)) (l_cons (a_of_d (d_int)) (l_cons (a_of_d (d_bool)) (l_nil)))))))))) (l_nil))) rfl (ll_cons (ll_cons (ll_nil)))))) (ss_nil)))) (ss_one (s_expr (x_append (pe_var (i := 3) rfl (.inl s_near_found)) (d_tup (l_cons (a_of_d (d_name (pe_var (i := 4) rfl (.inl s_near_name)))) (l_cons (a_of_d (d_name (pe_var (i := 5) rfl (.inl s_near_lot)))) (l_nil))))))))) (ss_one (s_ret (o_callTy co_tuple s_near_tuple Z.n_tuple b_tuple (l_cons (a_name (pe_var (i := 3) rfl (.inl s_near_found))) (l_nil))))))
theorem ok_law {f : Addr} {fd : FuncData} (Z : Zs K mg f_home_of d_home_of f_row_of d_row_of f_holds d_holds f_is_mine d_is_mine f_mine_at d_mine_at f_pairs_told d_pairs_told f_held_twice d_held_twice f_tap d_tap f_take d_take f_towns d_towns f_seats d_seats f_twos d_twos f_row d_row f_lot d_lot f_own d_own f_has d_has f_put d_put f_cast d_cast f_near d_near T_held_twice_wary) (F0 : Fun K "law" "law" st_law f fd) (F_tap : FnG P w K mg base (L2.CX P w) 1 f_tap d_tap ["script"] (spI K w XR 1 Lw.fn_tap)) (F_towns : FnG P w K mg base (L2.CX P w) 2 f_towns d_towns ["tap", "least"] (spI K w XR 2 Lw.fn_towns)) (F_twos : FnG P w K mg base (L2.CX P w) 1 f_twos d_twos ["people"] (spI K w XR 1 Lw.fn_twos)) (F_seats : FnG P w K mg base (L2.CX P w) 2 f_seats d_seats ["tap", "towns", "many"] (spI K w XR 3 Lw.fn_seats)) (F_cast : FnG P w K mg base (L2.CX P w) 4 f_cast d_cast ["tap", "towns", "pairs"] (spI K w XR 3 Lw.fn_cast)) (F_near : FnG P w K mg base (L2.CX P w) 2 f_near d_near ["tap", "cast", "pairs"] (spI K w XR 3 Lw.fn_near)) (F_has : FnG P w K mg base (L2.CX P w) 2 f_has d_has ["lot", "place", "pair"] (spI K w XR 3 Lw.fn_has)) (F_mine_at : FnG P w K mg base (L2.CX P w) 4 f_mine_at d_mine_at ["tells", "pair"] (spI K w XR 2 Lw.fn_mine_at)) (F_held_twice : FnG P w K mg base (L2.CX P w) 5 f_held_twice d_held_twice ["tells", "wary"] (spI K w XR 2 Lw.fn_held_twice)) : FnG P w K mg base (L2.CX P w) 6 f fd ["script"] (spI K w XR 1 Lw.fn_law_k14) := by
  refine okI (N := ["script", "tap", "turn", "towns", "pairs", "cast", "some", "kept", "seen", "name", "lot", "pair", "due", "asleep", "names", "row"]) (ps := ["script"]) (k := 5) (body := Lw.m_law_k14) [false] F0 sc_law rfl (by decide) fun cdv A outer s H E hg hr => ?_
  have hu := hr.units
  have hu1 := hr.units1
  have tk : Takes (cxOf (L2.CX P w) P w K mg base ["script", "tap", "turn", "towns", "pairs", "cast", "some", "kept", "seen", "name", "lot", "pair", "due", "asleep", "names", "row"] "law" (defScope st_law) f cdv A outer s H E) (fun cls d _ H' => E cls d H') := takes_of rfl rfl rfl rfl
  exact ss_cons (s_set (i := 1) sc_law.nd rfl (.inl s_law_tap) (o_fn F_tap hg (hr.mono (by decide)) s_law__law_tap Z.g_tap Z.k_tap Z.b_tap tk (l_cons (a_name (pe_var (i := 0) rfl (.inl s_law_script))) (l_nil)) rfl (ll_cons (ll_nil)))) (ss_cons (s_for (n := 16) (passes_of rfl) rfl (i_range1 s_law_range Z.n_range (l_cons (a_of_d (d_int)) (l_nil))) (pg_name (i := 2) sc_law.nd rfl (.inl s_law_turn)) (g_name) (ss_cons (s_set (i := 3) sc_law.nd rfl (.inl s_law_towns) (o_fnO F_towns hg (hr.mono (by decide)) s_law__law_towns Z.g_towns Z.k_towns Z.b_towns tk (l_cons (a_name (pe_var (i := 1) rfl (.inl s_law_tap))) (l_cons (a_of_d (d_of_o (o_op ao_add (a_of_d (d_int)) (a_of_d (d_op od_mod (a_name (pe_var (i := 2) rfl (.inl s_law_turn))) (a_of_d (d_int))))))) (l_nil))) rfl (ll_cons (ll_cons (ll_nil))))) (ss_cons (s_set (i := 4) sc_law.nd rfl (.inl s_law_pairs) (o_fn F_twos hg (hr.mono (by decide)) s_law__law_twos Z.g_twos Z.k_twos Z.b_twos tk (l_cons (a_of_d (d_of_o (o_op ao_add (a_of_d (d_of_o (o_fnO F_seats hg (hr.mono (by decide)) s_law__law_seats Z.g_seats Z.k_seats Z.b_seats tk (l_cons (a_name (pe_var (i := 1) rfl (.inl s_law_tap))) (l_cons (a_of_d (d_name (pe_var (i := 3) rfl (.inl s_law_towns)))) (l_cons (a_of_d (d_int)) (l_nil)))) rfl (ll_cons (ll_cons (ll_cons (ll_nil))))))) (a_of_d (d_of_o (o_lst (l_cons (a_of_d (d_tup (l_cons (a_of_d (d_str)) (l_cons (a_of_d (d_str)) (l_nil))))) (l_nil)))))))) (l_nil)) rfl (ll_cons (ll_nil)))) (ss_cons (s_set (i := 5) sc_law.nd rfl (.inl s_law_cast) (o_fnO F_cast hg (hr.mono (by decide)) s_law__law_cast Z.g_cast Z.k_cast Z.b_cast tk (l_cons (a_name (pe_var (i := 1) rfl (.inl s_law_tap))) (l_cons (a_of_d (d_name (pe_var (i := 3) rfl (.inl s_law_towns)))) (l_cons (a_of_d (d_name (pe_var (i := 4) rfl (.inl s_law_pairs)))) (l_nil)))) rfl (ll_cons (ll_cons (ll_cons (ll_nil)))))) (ss_one (s_for (n := 16) (passes_of rfl) rfl (i_seq (d_tup (l_cons (a_of_d (d_name (pe_var (i := 5) rfl (.inl s_law_cast)))) (l_cons (a_of_d (d_of_o (o_fnO F_near hg (hr.mono (by decide)) s_law__law_near Z.g_near Z.k_near Z.b_near tk (l_cons (a_name (pe_var (i := 1) rfl (.inl s_law_tap))) (l_cons (a_of_d (d_name (pe_var (i := 5) rfl (.inl s_law_cast)))) (l_cons (a_of_d (d_of_o (o_sl (a_name (pe_var (i := 4) rfl (.inl s_law_pairs))) (pt_none) (pt_some (d_int))))) (l_nil)))) rfl (ll_cons (ll_cons (ll_cons (ll_nil))))))) (l_nil))))) (pg_name (i := 6) sc_law.nd rfl (.inl s_law_some)) (g_name) (ss_cons (s_par rfl sc_law.nd rfl rfl s_law_kept s_law_seen (o_call (co_repr hg hu) s_law_repr Z.n_repr b_repr (l_cons (a_name (pe_var (i := 6) rfl (.inl s_law_some))) (l_nil))) (o_lst (l_nil))) (ss_cons (s_for (n := 16) (passes_of rfl) rfl (i_seq (d_name (pe_var (i := 6) rfl (.inl s_law_some)))) (pg_tup (n := 2) rfl (pgs_cons (pg_name (i := 9) sc_law.nd rfl (.inl s_law_name)) (pgs_cons (pg_name (i := 10) sc_law.nd rfl (.inl s_law_lot)) (pgs_nil)))) (g_tup (.cons (g_name) (.cons (g_name) (.nil)))) (ss_one (s_set (i := 8) sc_law.nd rfl (.inl s_law_seen) (o_op ao_add (a_name (pe_var (i := 8) rfl (.inl s_law_seen))) (a_of_d (d_of_o (o_comp (n := 16) (own := [("row", 15)]) rfl sc_law.nd (i_seq (d_ix (a_name (pe_var (i := 10) rfl (.inl s_law_lot))) (a_of_d (d_int)) (fun _ _ => rfl))) (blkOk_by (N := ["script", "tap", "turn", "towns", "pairs", "cast", "some", "kept", "seen", "name", "lot", "pair", "due", "asleep", "names", "row"]) (sc := defScope st_law) (own := [("row", 15)]) (by decide +kernel)) (fun _ _ _ _ _ => pg_name (i := 15) sc_law.nd rfl (.inl rfl)) (g_name) (fun _ _ _ _ _ => c_none) (fun _ _ _ _ _ => d_ix (a_name (pe_var (i := 15) rfl (.inl rfl))) (a_of_d (d_int)) (fun _ _ => rfl))))))))) (ss_cons (s_for (n := 16) (passes_of rfl) rfl (i_seq (d_name (pe_var (i := 4) rfl (.inl s_law_pairs)))) (pg_name (i := 11) sc_law.nd rfl (.inr s_law_pair)) (g_name) (ss_cons (s_set (i := 12) sc_law.nd rfl (.inl s_law_due) (o_callTy co_tuple s_law_tuple Z.n_tuple b_tuple (l_cons (a_of_d (d_of_o (o_comp (n := 16) (own := [("name", 9), ("lot", 10)]) rfl sc_law.nd (i_seq (d_name (pe_var (i := 6) rfl (.inl s_law_some)))) (blkOk_by (N := ["script", "tap", "turn", "towns", "pairs", "cast", "some", "kept", "seen", "name", "lot", "pair", "due", "asleep", "names", "row"]) (sc := defScope st_law) (own := [("name", 9), ("lot", 10)]) (by decide +kernel)) (fun _ _ _ _ _ => pg_tup (n := 2) rfl (pgs_cons (pg_name (i := 9) sc_law.nd rfl (.inl rfl)) (pgs_cons (pg_name (i := 10) sc_law.nd rfl (.inl rfl)) (pgs_nil)))) (g_tup (.cons (g_name) (.cons (g_name) (.nil)))) (fun _ _ _ _ _ => c_one (t_tru (d_of_o (o_fn F_has hg (hr.mono (by decide)) (blk_gl (sc := defScope st_law) rfl rfl (by decide +kernel)) Z.g_has Z.k_has Z.b_has takes0 (l_cons (a_of_d (d_name (pe_var (i := 10) rfl (.inl rfl)))) (l_cons (a_of_d (d_name (pe_var (i := 9) rfl (.inl rfl)))) (l_cons (a_of_d (d_name (pe_var (i := 11) rfl (.inr (.inl (blk_look (sc := defScope st_law) rfl (by decide +kernel))))))) (l_nil)))) rfl (ll_cons (ll_cons (ll_cons (ll_nil)))))))) (fun _ _ _ _ _ => d_name (pe_var (i := 9) rfl (.inl rfl)))))) (l_nil)))) (ss_one (s_if (t_cmp (od_ne hu) (a_of_d (d_of_o (o_call (co_repr hg hu) s_law_repr Z.n_repr b_repr (l_cons (a_of_d (d_of_o (o_fn F_mine_at hg (hr.mono (by decide)) s_law_mine_at Z.g_mine_at Z.k_mine_at Z.b_mine_at tk (l_cons (a_of_d (d_name (pe_var (i := 6) rfl (.inl s_law_some)))) (l_cons (a_of_d (d_name (pe_var (i := 11) rfl (.inr (.inl s_law_pair))))) (l_nil))) rfl (ll_cons (ll_cons (ll_nil)))))) (l_nil))))) (a_of_d (d_of_o (o_call (co_repr hg hu) s_law_repr Z.n_repr b_repr (l_cons (a_name (pe_var (i := 12) rfl (.inl s_law_due))) (l_nil)))))) (ss_one (s_ret (o_of_d (d_bool)))) (ss_nil))))) (ss_cons (s_for (n := 16) (passes_of rfl) rfl (i_seq (d_tup (l_cons (a_of_d (d_tup (l_nil))) (l_cons (a_of_d (d_of_o (o_callTy co_tuple s_law_tuple Z.n_tuple b_tuple (l_cons (a_of_d (d_of_o (o_sl (a_name (pe_var (i := 3) rfl (.inl s_law_towns))) (pt_none) (pt_some (d_int))))) (l_nil))))) (l_cons (a_of_d (d_of_o (o_callTy co_tuple s_law_tuple Z.n_tuple b_tuple (l_cons (a_name (pe_var (i := 3) rfl (.inl s_law_towns))) (l_nil))))) (l_cons (a_of_d (d_tup (l_cons (a_of_d (d_str)) (l_nil)))) (l_cons (a_of_d (d_of_o (o_callTy co_tuple s_law_tuple Z.n_tuple b_tuple (l_cons (a_of_d (d_of_o (o_op ao_add (a_of_d (d_of_o (o_sl (a_name (pe_var (i := 3) rfl (.inl s_law_towns))) (pt_some (d_int)) (pt_none)))) (a_of_d (d_of_o (o_lst (l_cons (a_of_d (d_str)) (l_nil)))))))) (l_nil))))) (l_nil)))))))) (pg_name (i := 13) sc_law.nd rfl (.inr s_law_asleep)) (g_name) (ss_cons (s_set (i := 12) sc_law.nd rfl (.inl s_law_due) (o_lst (l_nil))) (ss_cons (s_for (n := 16) (passes_of rfl) rfl (i_seq (d_of_o (o_sset rfl hu s_law_sorted Z.n_sorted s_law_set Z.n_set (l_cons (a_name (pe_var (i := 8) rfl (.inl s_law_seen))) (l_nil))))) (pg_name (i := 11) sc_law.nd rfl (.inr s_law_pair)) (g_name) (ss_cons (s_setC (n := 16) (own := [("name", 9), ("lot", 10)]) (i := 14) rfl sc_law.nd rfl s_law_names (sw_true rfl s_law_names rfl rfl) (i_seq (d_name (pe_var (i := 6) rfl (.inl s_law_some)))) (blkOk_by (N := ["script", "tap", "turn", "towns", "pairs", "cast", "some", "kept", "seen", "name", "lot", "pair", "due", "asleep", "names", "row"]) (sc := defScope st_law) (own := [("name", 9), ("lot", 10)]) (by decide +kernel)) (fun _ _ _ _ _ => pg_tup (n := 2) rfl (pgs_cons (pg_name (i := 9) sc_law.nd rfl (.inl rfl)) (pgs_cons (pg_name (i := 10) sc_law.nd rfl (.inl rfl)) (pgs_nil)))) (g_tup (.cons (g_name) (.cons (g_name) (.nil)))) (fun _ _ _ _ _ => c_one (t_tru (d_of_o (o_fn F_has hg (hr.mono (by decide)) (blk_gl (sc := defScope st_law) rfl rfl (by decide +kernel)) Z.g_has Z.k_has Z.b_has takes0 (l_cons (a_of_d (d_name (pe_var (i := 10) rfl (.inl rfl)))) (l_cons (a_of_d (d_name (pe_var (i := 9) rfl (.inl rfl)))) (l_cons (a_of_d (d_name (pe_var (i := 11) rfl (.inr (.inl (blk_look (sc := defScope st_law) rfl (by decide +kernel))))))) (l_nil)))) rfl (ll_cons (ll_cons (ll_cons (ll_nil)))))))) (fun _ _ _ _ _ => d_name (pe_var (i := 9) rfl (.inl rfl)))) (ss_cons (s_setC (n := 16) (own := [("name", 9)]) (i := 14) rfl sc_law.nd rfl s_law_names (sw_true rfl s_law_names rfl rfl) (i_seq (d_name (pe_var (i := 14) rfl (.inl s_law_names)))) (blkOk_by (N := ["script", "tap", "turn", "towns", "pairs", "cast", "some", "kept", "seen", "name", "lot", "pair", "due", "asleep", "names", "row"]) (sc := defScope st_law) (own := [("name", 9)]) (by decide +kernel)) (fun _ _ _ _ _ => pg_name (i := 9) sc_law.nd rfl (.inl rfl)) (g_name) (fun _ _ _ _ _ => c_one (t_cmp (od_notIn hu) (a_name (pe_var (i := 9) rfl (.inl rfl))) (a_name (pe_var (i := 13) rfl (.inr (.inl (blk_look (sc := defScope st_law) rfl (by decide +kernel)))))))) (fun _ _ _ _ _ => d_name (pe_var (i := 9) rfl (.inl rfl)))) (ss_one (s_set (i := 12) sc_law.nd rfl (.inl s_law_due) (o_op ao_add (a_name (pe_var (i := 12) rfl (.inl s_law_due))) (a_of_d (d_of_o (o_op ao_mulT (a_of_d (d_of_o (o_lst (l_cons (a_of_d (d_tup (l_cons (a_of_d (d_name (pe_var (i := 11) rfl (.inr (.inl s_law_pair))))) (l_cons (a_of_d (d_of_o (o_callTy co_tuple s_law_tuple Z.n_tuple b_tuple (l_cons (a_name (pe_var (i := 14) rfl (.inl s_law_names))) (l_nil))))) (l_nil))))) (l_nil))))) (a_of_d (d_of_o (o_callTy co_int s_law_int Z.n_int b_int (l_cons (a_of_d (d_cmp (od_gt hu) (a_of_d (d_of_o (o_call co_len s_law_len Z.n_len b_len (l_cons (a_name (pe_var (i := 14) rfl (.inl s_law_names))) (l_nil))))) (a_of_d (d_int)))) (l_nil)))))))))))))) (ss_one (s_if (t_cmp (od_ne hu) (a_of_d (d_of_o (o_call (co_repr hg hu) s_law_repr Z.n_repr b_repr (l_cons (a_of_d (d_of_o (o_fnK (n1 := 1) (n2 := 1) F_held_twice hg (hr.mono (by decide)) s_law_held_twice Z.g_held_twice Z.k_held_twice Z.b_held_twice tk (l_cons (a_of_d (d_name (pe_var (i := 6) rfl (.inl s_law_some)))) (l_nil)) (k_cons (a_of_d (d_name (pe_var (i := 13) rfl (.inr (.inl s_law_asleep))))) (k_nil)) (ll_cons (ll_nil)) (ll_cons (ll_nil))))) (l_nil))))) (a_of_d (d_of_o (o_call (co_repr hg hu) s_law_repr Z.n_repr b_repr (l_cons (a_of_d (d_of_o (o_callTy co_tuple s_law_tuple Z.n_tuple b_tuple (l_cons (a_name (pe_var (i := 12) rfl (.inl s_law_due))) (l_nil))))) (l_nil)))))) (ss_one (s_ret (o_of_d (d_bool)))) (ss_nil)))))) (ss_one (s_if (t_w (w_or (t_cmp (od_ne hu) (a_of_d (d_of_o (o_call (co_repr hg hu) s_law_repr Z.n_repr b_repr (l_cons (a_of_d (d_of_o (o_fnP (n1 := 1) (n2 := 0) F_held_twice hg (hr.mono (by decide)) s_law_held_twice Z.g_held_twice Z.k_held_twice Z.p_held_twice_1_ Z.q_held_twice_1_ rfl rfl tk (l_cons (a_of_d (d_name (pe_var (i := 6) rfl (.inl s_law_some)))) (l_nil)) (k_nil) (ll_cons (ll_nil)) (ll_nil)))) (l_nil))))) (a_of_d (d_of_o (o_call (co_repr hg hu) s_law_repr Z.n_repr b_repr (l_cons (a_of_d (d_of_o (o_fnK (n1 := 1) (n2 := 1) F_held_twice hg (hr.mono (by decide)) s_law_held_twice Z.g_held_twice Z.k_held_twice Z.b_held_twice tk (l_cons (a_of_d (d_name (pe_var (i := 6) rfl (.inl s_law_some)))) (l_nil)) (k_cons (a_of_d (d_tup (l_nil))) (k_nil)) (ll_cons (ll_nil)) (ll_cons (ll_nil))))) (l_nil)))))) (w_one2 (t_cmp (od_ne hu) (a_of_d (d_of_o (o_call (co_repr hg hu) s_law_repr Z.n_repr b_repr (l_cons (a_name (pe_var (i := 6) rfl (.inl s_law_some))) (l_nil))))) (a_name (pe_var (i := 7) rfl (.inl s_law_kept))))))) (ss_one (s_ret (o_of_d (d_bool)))) (ss_nil))))))))))))) (ss_one (s_ret (o_of_d (d_bool)))))
end
theorem all_in {l : PySem.W.OpenLaw} {w : World} {K : PySem.W.Frag} {h : Heap} {mg : Str → Option Value} {fa p_s0 p_s1 p_s2 p_s3 p_s4 p_s5 p_s6 p_s7 p_s8 p_s9 p_s10 p_s11 p_s12 p_s13 p_s14 p_s15 p_s16 p_s17 p_s18 p_s19 : Addr} {XR : Hp → Hp → Value → Option Addr → Xc → Prop} (X : K.In h) (G : h.Ns mainGlobals mg) (hfa : mg "law" = some (.ref fa))
    {od_s0 an_s0 : Option Addr} {sl_s0 : Array (Option Value)} {oc_s0 kV_s0 dc_s0 pm_s0 cd_s0 ct_s0 : Value} (a_s0 : PySem.W.nsIn K mainGlobals "home_of" = some (some (.ref p_s0)))
    (l_s0 : K.lookup p_s0 = some ⟨oc_s0, od_s0, .func (PySem.W.fnOf "home_of" "home_of" (defArgs st_home_of) (defBody st_home_of) (defScope st_home_of) .none kV_s0 dc_s0 pm_s0 an_s0 cd_s0 ct_s0), sl_s0⟩) (c_s0 : PySem.W.codeIn K cd_s0 "home_of" = true) (k_s0 : PySem.W.keepIn K (.ref p_s0) = true)
    {od_s1 an_s1 : Option Addr} {sl_s1 : Array (Option Value)} {oc_s1 kV_s1 dc_s1 pm_s1 cd_s1 ct_s1 : Value} (a_s1 : PySem.W.nsIn K mainGlobals "row_of" = some (some (.ref p_s1)))
    (l_s1 : K.lookup p_s1 = some ⟨oc_s1, od_s1, .func (PySem.W.fnOf "row_of" "row_of" (defArgs st_row_of) (defBody st_row_of) (defScope st_row_of) .none kV_s1 dc_s1 pm_s1 an_s1 cd_s1 ct_s1), sl_s1⟩) (c_s1 : PySem.W.codeIn K cd_s1 "row_of" = true) (k_s1 : PySem.W.keepIn K (.ref p_s1) = true)
    {od_s2 an_s2 : Option Addr} {sl_s2 : Array (Option Value)} {oc_s2 kV_s2 dc_s2 pm_s2 cd_s2 ct_s2 : Value} (a_s2 : PySem.W.nsIn K mainGlobals "holds" = some (some (.ref p_s2)))
    (l_s2 : K.lookup p_s2 = some ⟨oc_s2, od_s2, .func (PySem.W.fnOf "holds" "holds" (defArgs st_holds) (defBody st_holds) (defScope st_holds) .none kV_s2 dc_s2 pm_s2 an_s2 cd_s2 ct_s2), sl_s2⟩) (c_s2 : PySem.W.codeIn K cd_s2 "holds" = true) (k_s2 : PySem.W.keepIn K (.ref p_s2) = true)
    {od_s3 an_s3 : Option Addr} {sl_s3 : Array (Option Value)} {oc_s3 kV_s3 dc_s3 pm_s3 cd_s3 ct_s3 : Value} (a_s3 : PySem.W.nsIn K mainGlobals "is_mine" = some (some (.ref p_s3)))
    (l_s3 : K.lookup p_s3 = some ⟨oc_s3, od_s3, .func (PySem.W.fnOf "is_mine" "is_mine" (defArgs st_is_mine) (defBody st_is_mine) (defScope st_is_mine) .none kV_s3 dc_s3 pm_s3 an_s3 cd_s3 ct_s3), sl_s3⟩) (c_s3 : PySem.W.codeIn K cd_s3 "is_mine" = true) (k_s3 : PySem.W.keepIn K (.ref p_s3) = true)
    {od_s4 an_s4 : Option Addr} {sl_s4 : Array (Option Value)} {oc_s4 kV_s4 dc_s4 pm_s4 cd_s4 ct_s4 : Value} (a_s4 : PySem.W.nsIn K mainGlobals "mine_at" = some (some (.ref p_s4)))
    (l_s4 : K.lookup p_s4 = some ⟨oc_s4, od_s4, .func (PySem.W.fnOf "mine_at" "mine_at" (defArgs st_mine_at) (defBody st_mine_at) (defScope st_mine_at) .none kV_s4 dc_s4 pm_s4 an_s4 cd_s4 ct_s4), sl_s4⟩) (c_s4 : PySem.W.codeIn K cd_s4 "mine_at" = true) (k_s4 : PySem.W.keepIn K (.ref p_s4) = true)
    {od_s5 an_s5 : Option Addr} {sl_s5 : Array (Option Value)} {oc_s5 kV_s5 dc_s5 pm_s5 cd_s5 ct_s5 : Value} (a_s5 : PySem.W.nsIn K mainGlobals "pairs_told" = some (some (.ref p_s5)))
    (l_s5 : K.lookup p_s5 = some ⟨oc_s5, od_s5, .func (PySem.W.fnOf "pairs_told" "pairs_told" (defArgs st_pairs_told) (defBody st_pairs_told) (defScope st_pairs_told) .none kV_s5 dc_s5 pm_s5 an_s5 cd_s5 ct_s5), sl_s5⟩) (c_s5 : PySem.W.codeIn K cd_s5 "pairs_told" = true) (k_s5 : PySem.W.keepIn K (.ref p_s5) = true)
    {od_s6 an_s6 : Option Addr} {sl_s6 : Array (Option Value)} {oc_s6 dc_s6 pm_s6 cd_s6 ct_s6 : Value} (a_s6 : PySem.W.nsIn K mainGlobals "held_twice" = some (some (.ref p_s6)))
    {D_s6 : Addr} {T_held_twice_wary : Addr} {o_T_held_twice_wary : Option Addr} {n_T_held_twice_wary : Nat} {sl_T_held_twice_wary : Array (Option Value)}
    (l_s6 : K.lookup p_s6 = some ⟨oc_s6, od_s6, .func (PySem.W.fnOf "held_twice" "held_twice" (defArgs st_held_twice) (defBody st_held_twice) (defScope st_held_twice) .none (.ref D_s6) dc_s6 pm_s6 an_s6 cd_s6 ct_s6), sl_s6⟩) (c_s6 : PySem.W.codeIn K cd_s6 "held_twice" = true) (k_s6 : PySem.W.keepIn K (.ref p_s6) = true)
    (e_T_held_twice_wary : PySem.W.nsIn K D_s6 "wary" = some (some (.ref T_held_twice_wary)))
    (w_T_held_twice_wary : K.lookup T_held_twice_wary = some ⟨.type "tuple", o_T_held_twice_wary, .seq #[] n_T_held_twice_wary, sl_T_held_twice_wary⟩)
    {od_s7 an_s7 : Option Addr} {sl_s7 : Array (Option Value)} {oc_s7 kV_s7 dc_s7 pm_s7 cd_s7 ct_s7 : Value} (a_s7 : PySem.W.nsIn K mainGlobals "_law_tap" = some (some (.ref p_s7)))
    (l_s7 : K.lookup p_s7 = some ⟨oc_s7, od_s7, .func (PySem.W.fnOf "_law_tap" "_law_tap" (defArgs st_tap) (defBody st_tap) (defScope st_tap) .none kV_s7 dc_s7 pm_s7 an_s7 cd_s7 ct_s7), sl_s7⟩) (c_s7 : PySem.W.codeIn K cd_s7 "_law_tap" = true) (k_s7 : PySem.W.keepIn K (.ref p_s7) = true)
    {od_s8 an_s8 : Option Addr} {sl_s8 : Array (Option Value)} {oc_s8 kV_s8 dc_s8 pm_s8 cd_s8 ct_s8 : Value} (a_s8 : PySem.W.nsIn K mainGlobals "_law_take" = some (some (.ref p_s8)))
    (l_s8 : K.lookup p_s8 = some ⟨oc_s8, od_s8, .func (PySem.W.fnOf "_law_take" "_law_take" (defArgs st_take) (defBody st_take) (defScope st_take) .none kV_s8 dc_s8 pm_s8 an_s8 cd_s8 ct_s8), sl_s8⟩) (c_s8 : PySem.W.codeIn K cd_s8 "_law_take" = true) (k_s8 : PySem.W.keepIn K (.ref p_s8) = true)
    {od_s9 an_s9 : Option Addr} {sl_s9 : Array (Option Value)} {oc_s9 kV_s9 dc_s9 pm_s9 cd_s9 ct_s9 : Value} (a_s9 : PySem.W.nsIn K mainGlobals "_law_towns" = some (some (.ref p_s9)))
    (l_s9 : K.lookup p_s9 = some ⟨oc_s9, od_s9, .func (PySem.W.fnOf "_law_towns" "_law_towns" (defArgs st_towns) (defBody st_towns) (defScope st_towns) .none kV_s9 dc_s9 pm_s9 an_s9 cd_s9 ct_s9), sl_s9⟩) (c_s9 : PySem.W.codeIn K cd_s9 "_law_towns" = true) (k_s9 : PySem.W.keepIn K (.ref p_s9) = true)
    {od_s10 an_s10 : Option Addr} {sl_s10 : Array (Option Value)} {oc_s10 kV_s10 dc_s10 pm_s10 cd_s10 ct_s10 : Value} (a_s10 : PySem.W.nsIn K mainGlobals "_law_seats" = some (some (.ref p_s10)))
    (l_s10 : K.lookup p_s10 = some ⟨oc_s10, od_s10, .func (PySem.W.fnOf "_law_seats" "_law_seats" (defArgs st_seats) (defBody st_seats) (defScope st_seats) .none kV_s10 dc_s10 pm_s10 an_s10 cd_s10 ct_s10), sl_s10⟩) (c_s10 : PySem.W.codeIn K cd_s10 "_law_seats" = true) (k_s10 : PySem.W.keepIn K (.ref p_s10) = true)
    {od_s11 an_s11 : Option Addr} {sl_s11 : Array (Option Value)} {oc_s11 kV_s11 dc_s11 pm_s11 cd_s11 ct_s11 : Value} (a_s11 : PySem.W.nsIn K mainGlobals "_law_twos" = some (some (.ref p_s11)))
    (l_s11 : K.lookup p_s11 = some ⟨oc_s11, od_s11, .func (PySem.W.fnOf "_law_twos" "_law_twos" (defArgs st_twos) (defBody st_twos) (defScope st_twos) .none kV_s11 dc_s11 pm_s11 an_s11 cd_s11 ct_s11), sl_s11⟩) (c_s11 : PySem.W.codeIn K cd_s11 "_law_twos" = true) (k_s11 : PySem.W.keepIn K (.ref p_s11) = true)
    {od_s12 an_s12 : Option Addr} {sl_s12 : Array (Option Value)} {oc_s12 kV_s12 dc_s12 pm_s12 cd_s12 ct_s12 : Value} (a_s12 : PySem.W.nsIn K mainGlobals "_law_row" = some (some (.ref p_s12)))
    (l_s12 : K.lookup p_s12 = some ⟨oc_s12, od_s12, .func (PySem.W.fnOf "_law_row" "_law_row" (defArgs st_row) (defBody st_row) (defScope st_row) .none kV_s12 dc_s12 pm_s12 an_s12 cd_s12 ct_s12), sl_s12⟩) (c_s12 : PySem.W.codeIn K cd_s12 "_law_row" = true) (k_s12 : PySem.W.keepIn K (.ref p_s12) = true)
    {od_s13 an_s13 : Option Addr} {sl_s13 : Array (Option Value)} {oc_s13 kV_s13 dc_s13 pm_s13 cd_s13 ct_s13 : Value} (a_s13 : PySem.W.nsIn K mainGlobals "_law_lot" = some (some (.ref p_s13)))
    (l_s13 : K.lookup p_s13 = some ⟨oc_s13, od_s13, .func (PySem.W.fnOf "_law_lot" "_law_lot" (defArgs st_lot) (defBody st_lot) (defScope st_lot) .none kV_s13 dc_s13 pm_s13 an_s13 cd_s13 ct_s13), sl_s13⟩) (c_s13 : PySem.W.codeIn K cd_s13 "_law_lot" = true) (k_s13 : PySem.W.keepIn K (.ref p_s13) = true)
    {od_s14 an_s14 : Option Addr} {sl_s14 : Array (Option Value)} {oc_s14 kV_s14 dc_s14 pm_s14 cd_s14 ct_s14 : Value} (a_s14 : PySem.W.nsIn K mainGlobals "_law_own" = some (some (.ref p_s14)))
    (l_s14 : K.lookup p_s14 = some ⟨oc_s14, od_s14, .func (PySem.W.fnOf "_law_own" "_law_own" (defArgs st_own) (defBody st_own) (defScope st_own) .none kV_s14 dc_s14 pm_s14 an_s14 cd_s14 ct_s14), sl_s14⟩) (c_s14 : PySem.W.codeIn K cd_s14 "_law_own" = true) (k_s14 : PySem.W.keepIn K (.ref p_s14) = true)
    {od_s15 an_s15 : Option Addr} {sl_s15 : Array (Option Value)} {oc_s15 kV_s15 dc_s15 pm_s15 cd_s15 ct_s15 : Value} (a_s15 : PySem.W.nsIn K mainGlobals "_law_has" = some (some (.ref p_s15)))
    (l_s15 : K.lookup p_s15 = some ⟨oc_s15, od_s15, .func (PySem.W.fnOf "_law_has" "_law_has" (defArgs st_has) (defBody st_has) (defScope st_has) .none kV_s15 dc_s15 pm_s15 an_s15 cd_s15 ct_s15), sl_s15⟩) (c_s15 : PySem.W.codeIn K cd_s15 "_law_has" = true) (k_s15 : PySem.W.keepIn K (.ref p_s15) = true)
    {od_s16 an_s16 : Option Addr} {sl_s16 : Array (Option Value)} {oc_s16 kV_s16 dc_s16 pm_s16 cd_s16 ct_s16 : Value} (a_s16 : PySem.W.nsIn K mainGlobals "_law_put" = some (some (.ref p_s16)))
    (l_s16 : K.lookup p_s16 = some ⟨oc_s16, od_s16, .func (PySem.W.fnOf "_law_put" "_law_put" (defArgs st_put) (defBody st_put) (defScope st_put) .none kV_s16 dc_s16 pm_s16 an_s16 cd_s16 ct_s16), sl_s16⟩) (c_s16 : PySem.W.codeIn K cd_s16 "_law_put" = true) (k_s16 : PySem.W.keepIn K (.ref p_s16) = true)
    {od_s17 an_s17 : Option Addr} {sl_s17 : Array (Option Value)} {oc_s17 kV_s17 dc_s17 pm_s17 cd_s17 ct_s17 : Value} (a_s17 : PySem.W.nsIn K mainGlobals "_law_cast" = some (some (.ref p_s17)))
    (l_s17 : K.lookup p_s17 = some ⟨oc_s17, od_s17, .func (PySem.W.fnOf "_law_cast" "_law_cast" (defArgs st_cast) (defBody st_cast) (defScope st_cast) .none kV_s17 dc_s17 pm_s17 an_s17 cd_s17 ct_s17), sl_s17⟩) (c_s17 : PySem.W.codeIn K cd_s17 "_law_cast" = true) (k_s17 : PySem.W.keepIn K (.ref p_s17) = true)
    {od_s18 an_s18 : Option Addr} {sl_s18 : Array (Option Value)} {oc_s18 kV_s18 dc_s18 pm_s18 cd_s18 ct_s18 : Value} (a_s18 : PySem.W.nsIn K mainGlobals "_law_near" = some (some (.ref p_s18)))
    (l_s18 : K.lookup p_s18 = some ⟨oc_s18, od_s18, .func (PySem.W.fnOf "_law_near" "_law_near" (defArgs st_near) (defBody st_near) (defScope st_near) .none kV_s18 dc_s18 pm_s18 an_s18 cd_s18 ct_s18), sl_s18⟩) (c_s18 : PySem.W.codeIn K cd_s18 "_law_near" = true) (k_s18 : PySem.W.keepIn K (.ref p_s18) = true)
    {od_s19 an_s19 : Option Addr} {sl_s19 : Array (Option Value)} {oc_s19 kV_s19 dc_s19 pm_s19 cd_s19 ct_s19 : Value} (a_s19 : PySem.W.nsIn K mainGlobals "law" = some (some (.ref p_s19)))
    (l_s19 : K.lookup p_s19 = some ⟨oc_s19, od_s19, .func (PySem.W.fnOf "law" "law" (defArgs st_law) (defBody st_law) (defScope st_law) .none kV_s19 dc_s19 pm_s19 an_s19 cd_s19 ct_s19), sl_s19⟩) (c_s19 : PySem.W.codeIn K cd_s19 "law" = true) (k_s19 : PySem.W.keepIn K (.ref p_s19) = true)
    (z_int : PySem.W.nsIn K mainGlobals "int" = some none)
    (z_len : PySem.W.nsIn K mainGlobals "len" = some none)
    (z_list : PySem.W.nsIn K mainGlobals "list" = some none)
    (z_max : PySem.W.nsIn K mainGlobals "max" = some none)
    (z_min : PySem.W.nsIn K mainGlobals "min" = some none)
    (z_range : PySem.W.nsIn K mainGlobals "range" = some none)
    (z_repr : PySem.W.nsIn K mainGlobals "repr" = some none)
    (z_set : PySem.W.nsIn K mainGlobals "set" = some none)
    (z_sorted : PySem.W.nsIn K mainGlobals "sorted" = some none)
    (z_tuple : PySem.W.nsIn K mainGlobals "tuple" = some none)
    : ∃ fd : FuncData, (∀ (s : Shared) (u : Value), BindsTo s fd ⟨[u], []⟩ [("script", u)]) ∧ ∀ base : Heap, FnG l.prog w K mg base (L2.CX l.prog w) 6 fa fd ["script"] (spI K w XR 1 (fnM 15 [false] Lw.m_law_k14)) := by
  cases hfa.symm.trans (PySem.W.mg_of X G a_s19)
  have G_s0 := fun_mk (st := st_home_of) l_s0 c_s0 k_s0
  have B_s0 := G_s0.binds (ps := ["pair"]) fun _ _ _ _ _ _ us hl => match us, hl with | [_], _ => rfl
  have G_s1 := fun_mk (st := st_row_of) l_s1 c_s1 k_s1
  have B_s1 := G_s1.binds (ps := ["rights", "town", "pair"]) fun _ _ _ _ _ _ us hl => match us, hl with | [_, _, _], _ => rfl
  have G_s2 := fun_mk (st := st_holds) l_s2 c_s2 k_s2
  have B_s2 := G_s2.binds (ps := ["row", "town"]) fun _ _ _ _ _ _ us hl => match us, hl with | [_, _], _ => rfl
  have G_s3 := fun_mk (st := st_is_mine) l_s3 c_s3 k_s3
  have B_s3 := G_s3.binds (ps := ["rights", "town", "pair"]) fun _ _ _ _ _ _ us hl => match us, hl with | [_, _, _], _ => rfl
  have G_s4 := fun_mk (st := st_mine_at) l_s4 c_s4 k_s4
  have B_s4 := G_s4.binds (ps := ["tells", "pair"]) fun _ _ _ _ _ _ us hl => match us, hl with | [_, _], _ => rfl
  have G_s5 := fun_mk (st := st_pairs_told) l_s5 c_s5 k_s5
  have B_s5 := G_s5.binds (ps := ["tells"]) fun _ _ _ _ _ _ us hl => match us, hl with | [_], _ => rfl
  have G_s6 := fun_mk (st := st_held_twice) l_s6 c_s6 k_s6
  have B_s6 : BindsK K (PySem.W.fnOf "held_twice" "held_twice" (defArgs st_held_twice) (defBody st_held_twice) (defScope st_held_twice) .none (.ref D_s6) dc_s6 pm_s6 an_s6 cd_s6 ct_s6) ["tells", "wary"] ["wary"] 1 1 := fun s us ws _ h1 h2 => match us, ws, h1, h2 with | [_], [_], _, _ => .of_eq rfl
  have G_s7 := fun_mk (st := st_tap) l_s7 c_s7 k_s7
  have B_s7 := G_s7.binds (ps := ["script"]) fun _ _ _ _ _ _ us hl => match us, hl with | [_], _ => rfl
  have G_s8 := fun_mk (st := st_take) l_s8 c_s8 k_s8
  have B_s8 := G_s8.binds (ps := ["tap", "many"]) fun _ _ _ _ _ _ us hl => match us, hl with | [_, _], _ => rfl
  have G_s9 := fun_mk (st := st_towns) l_s9 c_s9 k_s9
  have B_s9 := G_s9.binds (ps := ["tap", "least"]) fun _ _ _ _ _ _ us hl => match us, hl with | [_, _], _ => rfl
  have G_s10 := fun_mk (st := st_seats) l_s10 c_s10 k_s10
  have B_s10 := G_s10.binds (ps := ["tap", "towns", "many"]) fun _ _ _ _ _ _ us hl => match us, hl with | [_, _, _], _ => rfl
  have G_s11 := fun_mk (st := st_twos) l_s11 c_s11 k_s11
  have B_s11 := G_s11.binds (ps := ["people"]) fun _ _ _ _ _ _ us hl => match us, hl with | [_], _ => rfl
  have G_s12 := fun_mk (st := st_row) l_s12 c_s12 k_s12
  have B_s12 := G_s12.binds (ps := ["tap", "pair", "towns"]) fun _ _ _ _ _ _ us hl => match us, hl with | [_, _, _], _ => rfl
  have G_s13 := fun_mk (st := st_lot) l_s13 c_s13 k_s13
  have B_s13 := G_s13.binds (ps := ["tap", "pairs", "towns"]) fun _ _ _ _ _ _ us hl => match us, hl with | [_, _, _], _ => rfl
  have G_s14 := fun_mk (st := st_own) l_s14 c_s14 k_s14
  have B_s14 := G_s14.binds (ps := ["lot", "place", "pair"]) fun _ _ _ _ _ _ us hl => match us, hl with | [_, _, _], _ => rfl
  have G_s15 := fun_mk (st := st_has) l_s15 c_s15 k_s15
  have B_s15 := G_s15.binds (ps := ["lot", "place", "pair"]) fun _ _ _ _ _ _ us hl => match us, hl with | [_, _, _], _ => rfl
  have G_s16 := fun_mk (st := st_put) l_s16 c_s16 k_s16
  have B_s16 := G_s16.binds (ps := ["lot", "row"]) fun _ _ _ _ _ _ us hl => match us, hl with | [_, _], _ => rfl
  have G_s17 := fun_mk (st := st_cast) l_s17 c_s17 k_s17
  have B_s17 := G_s17.binds (ps := ["tap", "towns", "pairs"]) fun _ _ _ _ _ _ us hl => match us, hl with | [_, _, _], _ => rfl
  have G_s18 := fun_mk (st := st_near) l_s18 c_s18 k_s18
  have B_s18 := G_s18.binds (ps := ["tap", "cast", "pairs"]) fun _ _ _ _ _ _ us hl => match us, hl with | [_, _, _], _ => rfl
  have G_s19 := fun_mk (st := st_law) l_s19 c_s19 k_s19
  have P_p_held_twice_1_ : BindsP K (PySem.W.fnOf "held_twice" "held_twice" (defArgs st_held_twice) (defBody st_held_twice) (defScope st_held_twice) .none (.ref D_s6) dc_s6 pm_s6 an_s6 cd_s6 ct_s6) ["tells", "wary"] [] 1 0 [.inl 0, .inr ((.ref T_held_twice_wary), (.ref T_held_twice_wary), (.tuple []))] := fun s us ws X h1 h2 => L2.BindsTo.of_looks fun M => L2.KwChain.looks (l := [("wary", (.ref T_held_twice_wary))]) X (List.forall_mem_cons.mpr ⟨e_T_held_twice_wary, (fun _ h => nomatch h)⟩) (match us, ws, h1, h2 with | [_], [], _, _ => ⟨_, _, _, _, _, _, rfl, rfl, rfl⟩)
  have Q_p_held_twice_1_ : pkOk K (1 + 0) [.inl 0, .inr ((.ref T_held_twice_wary), (.ref T_held_twice_wary), (.tuple []))] := ⟨(by decide), ⟨⟨rfl, fun w F => .tup (.inr ⟨_, #[], _, w_T_held_twice_wary, rfl, rfl, Nat.zero_le _, .nil⟩) .nil⟩, trivial⟩⟩
  have Z : Zs K mg p_s0 _ p_s1 _ p_s2 _ p_s3 _ p_s4 _ p_s5 _ p_s6 _ p_s7 _ p_s8 _ p_s9 _ p_s10 _ p_s11 _ p_s12 _ p_s13 _ p_s14 _ p_s15 _ p_s16 _ p_s17 _ p_s18 _ T_held_twice_wary := ⟨PySem.W.mg_none_of X G z_int, PySem.W.mg_none_of X G z_len, PySem.W.mg_none_of X G z_list, PySem.W.mg_none_of X G z_max, PySem.W.mg_none_of X G z_min, PySem.W.mg_none_of X G z_range, PySem.W.mg_none_of X G z_repr, PySem.W.mg_none_of X G z_set, PySem.W.mg_none_of X G z_sorted, PySem.W.mg_none_of X G z_tuple, PySem.W.mg_of X G a_s0, k_s0, B_s0, PySem.W.mg_of X G a_s1, k_s1, B_s1, PySem.W.mg_of X G a_s2, k_s2, B_s2, PySem.W.mg_of X G a_s3, k_s3, B_s3, PySem.W.mg_of X G a_s4, k_s4, B_s4, PySem.W.mg_of X G a_s5, k_s5, B_s5, PySem.W.mg_of X G a_s6, k_s6, B_s6, PySem.W.mg_of X G a_s7, k_s7, B_s7, PySem.W.mg_of X G a_s8, k_s8, B_s8, PySem.W.mg_of X G a_s9, k_s9, B_s9, PySem.W.mg_of X G a_s10, k_s10, B_s10, PySem.W.mg_of X G a_s11, k_s11, B_s11, PySem.W.mg_of X G a_s12, k_s12, B_s12, PySem.W.mg_of X G a_s13, k_s13, B_s13, PySem.W.mg_of X G a_s14, k_s14, B_s14, PySem.W.mg_of X G a_s15, k_s15, B_s15, PySem.W.mg_of X G a_s16, k_s16, B_s16, PySem.W.mg_of X G a_s17, k_s17, B_s17, PySem.W.mg_of X G a_s18, k_s18, B_s18, P_p_held_twice_1_, Q_p_held_twice_1_⟩
  refine ⟨PySem.W.fnOf "law" "law" (defArgs st_law) (defBody st_law) (defScope st_law) .none kV_s19 dc_s19 pm_s19 an_s19 cd_s19 ct_s19, fun s u => .of_eq rfl, fun base => ?_⟩
  have K_s0 := ok_home_of (P := l.prog) (w := w) (base := base) (XR := XR) Z G_s0 
  have K_s1 := ok_row_of (P := l.prog) (w := w) (base := base) (XR := XR) Z G_s1 K_s0
  have K_s2 := ok_holds (P := l.prog) (w := w) (base := base) (XR := XR) Z G_s2 
  have K_s3 := ok_is_mine (P := l.prog) (w := w) (base := base) (XR := XR) Z G_s3 K_s2 K_s1
  have K_s4 := ok_mine_at (P := l.prog) (w := w) (base := base) (XR := XR) Z G_s4 K_s3
  have K_s5 := ok_pairs_told (P := l.prog) (w := w) (base := base) (XR := XR) Z G_s5 
  have K_s6 := ok_held_twice (P := l.prog) (w := w) (base := base) (XR := XR) Z G_s6 K_s5 K_s4
  have K_s7 := ok_tap (P := l.prog) (w := w) (base := base) (XR := XR) Z G_s7 
  have K_s8 := ok_take (P := l.prog) (w := w) (base := base) (XR := XR) Z G_s8 
  have K_s9 := ok_towns (P := l.prog) (w := w) (base := base) (XR := XR) Z G_s9 K_s8
  have K_s10 := ok_seats (P := l.prog) (w := w) (base := base) (XR := XR) Z G_s10 K_s8
  have K_s11 := ok_twos (P := l.prog) (w := w) (base := base) (XR := XR) Z G_s11 
  have K_s12 := ok_row (P := l.prog) (w := w) (base := base) (XR := XR) Z G_s12 K_s8
  have K_s13 := ok_lot (P := l.prog) (w := w) (base := base) (XR := XR) Z G_s13 K_s8 K_s12
  have K_s14 := ok_own (P := l.prog) (w := w) (base := base) (XR := XR) Z G_s14 
  have K_s15 := ok_has (P := l.prog) (w := w) (base := base) (XR := XR) Z G_s15 K_s14
  have K_s16 := ok_put (P := l.prog) (w := w) (base := base) (XR := XR) Z G_s16 
  have K_s17 := ok_cast (P := l.prog) (w := w) (base := base) (XR := XR) Z G_s17 K_s8 K_s13
  have K_s18 := ok_near (P := l.prog) (w := w) (base := base) (XR := XR) Z G_s18 K_s8 K_s16
  exact ok_law Z G_s19 K_s7 K_s9 K_s11 K_s10 K_s17 K_s18 K_s15 K_s4 K_s6
end Dv
namespace Lw
open PySem L2 PySem.W PySem.SeqAt Eg
abbrev Tell := Str × Lot
def cd (t : Tell) : PyData := .tuple [.str t.1, lotD t.2]
def minesOf (c : List Tell) (p : Hand × Hand) : List Str := (c.filter fun t => mine (ownRow t.2 t.1 p) t.1).map (·.1)
theorem items_at {d : PyData} {c : List Tell} (hd : d = .tuple (c.map cd) ∨ d = .list (c.map cd)) (ρ : Rho) : seqItems d ρ = .ok (c.map cd) ρ := by
  rcases hd with rfl | rfl <;> rfl
theorem mine_at_ok {c : List Tell} {p : Hand × Hand} {d : PyData} (hd : d = .tuple (c.map cd) ∨ d = .list (c.map cd)) (hl : c.length ≤ 100) :
    fn_mine_at [some (.sh d), some (.sh (pd p))] = .ok (.sh (.tuple ((minesOf c p).map .str))) [none, none] := by
  have z := sizeLine_eq
  have e : mComp ((mName 0).bind seqItems) (tTup [tName 2, tName 3]) (m_mine_at_t2) (m_mine_at_e1) [2, 3] [some (.sh d), some (.sh (pd p)), none, none] =
      .ok (.ol ((c.filter fun t => mine (ownRow t.2 t.1 p) t.1).map fun t => .str t.1)) [some (.sh d), some (.sh (pd p)), none, none] := by
    refine comp_filt (f := cd) (fun t => mine (ownRow t.2 t.1 p) t.1) (fun t => .str t.1) (by simp! only [items_at hd]) (by omega) fun t _ => ⟨[some (.sh d), some (.sh (pd p)), some (.sh (.str t.1)), some (.sh (lotD t.2))], [some (.sh d), some (.sh (pd p)), some (.sh (.str t.1)), some (.sh (lotD t.2))], rfl, ?_, rfl, fun _ => ⟨[some (.sh d), some (.sh (pd p)), some (.sh (.str t.1)), some (.sh (lotD t.2))], ?_, rfl⟩⟩
    · have e1 := mine_ok t.2 t.1 p
      unfold m_mine_at_t2
      simp! only [e1]
    · unfold m_mine_at_e1
      simp! only []
  have em : (c.filter fun t => mine (ownRow t.2 t.1 p) t.1).map (fun t => PyData.str t.1) = (minesOf c p).map .str := by unfold minesOf; rw [List.map_map]; rfl
  rw [em] at e
  have gt : gTuple [.list ((minesOf c p).map .str)] = some (.sh (.tuple ((minesOf c p).map .str))) := rfl
  unfold fn_mine_at m_mine_at
  simp! only [e, gt]
/-! ### pairs that are told -/
def rowsOf (c : List Tell) : List Row := c.flatMap fun t => t.2.rows
theorem key_pd (p : Hand × Hand) : keyT (pd p) = true := by simp [pd, hd, keyT, keyBs, keyB, PyData.depth, PyData.depthAll]
theorem alike_pds {l : List (Hand × Hand)} : ∀ d ∈ l.map pd, ∀ e ∈ l.map pd, alike d e = true := by
  intro d hd e he
  obtain ⟨x, _, rfl⟩ := List.mem_map.mp hd
  obtain ⟨y, _, rfl⟩ := List.mem_map.mp he
  exact pd_alike x y
theorem kPut_nodup {kvs : List (PyData × PyData)} {k d : PyData} (h : ((kvs.map (·.1)).map nk).Nodup) : (((kPut kvs k d).map (·.1)).map nk).Nodup := by
  unfold kPut
  split
  · have e : (kRepl k d kvs).map (·.1) = kvs.map (·.1) := by
      unfold kRepl
      rw [List.map_map]
      exact List.map_congr_left fun x _ => by
        show (if nk x.1 = nk k then (x.1, d) else x).1 = x.1
        split <;> rfl
    rw [e]
    exact h
  · rename_i q
    rw [List.map_append, List.map_append]
    refine List.nodup_append.mpr ⟨h, by simp, fun a ha b hb => ?_⟩
    simp at hb
    rintro rfl
    refine q (List.any_eq_true.mpr ?_)
    rw [List.map_map] at ha
    obtain ⟨x, hx, e⟩ := List.mem_map.mp ha
    exact ⟨x, hx, decide_eq_true (by rw [← hb]; exact e)⟩
theorem kFill_nodup : ∀ {ps kvs : List (PyData × PyData)}, ((kvs.map (·.1)).map nk).Nodup → (((kFill kvs ps).map (·.1)).map nk).Nodup
  | [], _, h => h
  | p :: ps, _, h => kFill_nodup (ps := ps) (kPut_nodup h)
theorem kPut_mem {kvs : List (PyData × PyData)} {k d x : PyData} (h : x ∈ (kPut kvs k d).map (·.1)) : x ∈ kvs.map (·.1) ∨ x = k := by
  unfold kPut at h
  split at h
  · left
    have e : (kRepl k d kvs).map (·.1) = kvs.map (·.1) := by
      unfold kRepl
      rw [List.map_map]
      exact List.map_congr_left fun x _ => by
        show (if nk x.1 = nk k then (x.1, d) else x).1 = x.1
        split <;> rfl
    rw [e] at h
    exact h
  · rw [List.map_append] at h
    rcases List.mem_append.mp h with h | h
    · exact .inl h
    · exact .inr (by simpa using h)
theorem kFill_mem : ∀ {ps kvs : List (PyData × PyData)} {x : PyData}, x ∈ (kFill kvs ps).map (·.1) → x ∈ kvs.map (·.1) ∨ x ∈ ps.map (·.1)
  | [], _, _, h => .inl h
  | p :: ps, kvs, x, h => by
    rcases kFill_mem (ps := ps) h with h | h
    · rcases kPut_mem h with h | h
      · exact .inl h
      · exact .inr (by rw [h]; exact List.mem_cons_self)
    · exact .inr (List.mem_cons_of_mem _ h)
theorem kHas_mem {kvs : List (PyData × PyData)} {k : PyData} (h : kHas kvs k = true) : ∃ x ∈ kvs.map (·.1), nk x = nk k := by
  obtain ⟨p, hp, e⟩ := List.any_eq_true.mp h
  exact ⟨p.1, List.mem_map.mpr ⟨p, hp, rfl⟩, of_decide_eq_true e⟩
open List in
theorem keys_once {ps : List (PyData × PyData)} (kb : ∀ d ∈ ps.map (·.1), keyB d = true) : (kFill [] ps).map (·.1) ~ once (ps.map (·.1)) := by
  have nd : (((kFill [] ps).map (·.1)).map nk).Nodup := kFill_nodup (by simp)
  have mem : ∀ x ∈ (kFill [] ps).map (·.1), x ∈ ps.map (·.1) := fun x hx => (kFill_mem hx).resolve_left (by simp)
  refine (List.perm_ext_iff_of_nodup (Eg.nodup_of_map nd) (Eg.nodup_of_map (once_nodup _))).mpr fun d => ⟨fun h => ?_, fun h => ?_⟩
  · obtain ⟨e, he, q⟩ := once_all (mem d h)
    rw [nk_inj e d (kb e (once_mem he)) (kb d (mem d h)) q] at he
    exact he
  · have h1 := once_mem h
    have hh : kHas (kFill [] ps) d = true := by
      rw [kHas_fill]
      refine Bool.or_eq_true_iff.mpr (.inr ?_)
      obtain ⟨p, hp, rfl⟩ := List.mem_map.mp h1
      exact List.any_eq_true.mpr ⟨p, hp, decide_eq_true rfl⟩
    obtain ⟨x, hx, q⟩ := kHas_mem hh
    rw [nk_inj x d (kb x (mem x hx)) (kb d h1) q] at hx
    exact hx
/-- the pairs told, rising, each once -/
theorem told_pairs (l : List (Hand × Hand)) : ∃ sp : List (Hand × Hand), sortD (once (l.map pd)) = sp.map pd ∧ (∀ p ∈ sp, p ∈ l) ∧ sp.length ≤ l.length := by
  have h1 : ∀ d ∈ sortD (once (l.map pd)), ∃ p ∈ l, d = pd p := fun d hd => by
    have := once_mem (List.mem_mergeSort.mp hd)
    obtain ⟨p, hp, e⟩ := List.mem_map.mp this
    exact ⟨p, hp, e.symm⟩
  have len : ∀ ds : List PyData, (once ds).length ≤ ds.length := by
    intro ds
    induction ds with
    | nil => exact Nat.le_refl _
    | cons d ds ih =>
      rw [once, List.length_cons, List.length_cons]
      have := List.length_filter_le (fun e => !decide (nk e = nk d)) (once ds)
      omega
  have gen : ∀ ds : List PyData, (∀ d ∈ ds, ∃ p ∈ l, d = pd p) → ∃ sp : List (Hand × Hand), ds = sp.map pd ∧ (∀ p ∈ sp, p ∈ l) := by
    intro ds
    induction ds with
    | nil => exact fun _ => ⟨[], rfl, fun p hp => by cases hp⟩
    | cons d ds ih =>
      intro h
      obtain ⟨p, hp, e⟩ := h d List.mem_cons_self
      obtain ⟨sp, e2, m⟩ := ih fun x hx => h x (List.mem_cons_of_mem _ hx)
      exact ⟨p :: sp, by rw [e, e2]; rfl, fun q hq => by
        rcases List.mem_cons.mp hq with z | hq
        · rw [z]; exact hp
        · exact m q hq⟩
  obtain ⟨sp, e, m⟩ := gen _ h1
  refine ⟨sp, e, m, ?_⟩
  have a := congrArg List.length e
  have b := len (l.map pd)
  rw [List.length_map] at a b
  unfold sortD at a
  rw [List.length_mergeSort] at a
  omega
theorem once_sub (l : List (Hand × Hand)) : ∃ sp : List (Hand × Hand), once (l.map pd) = sp.map pd := by
  induction l with
  | nil => exact ⟨[], rfl⟩
  | cons p l ih =>
    obtain ⟨sp, e⟩ := ih
    refine ⟨p :: sp.filter fun q => !decide (nk (pd q) = nk (pd p)), ?_⟩
    rw [List.map_cons, once, e, List.filter_map, List.map_cons]
    rfl
theorem gOnce_pd {l : List (Hand × Hand)} (h : l.length ≤ 1000) : gOnce (l.map pd) = some (.ol (sortD (once (l.map pd)))) := if_pos (sortOk_pd l h)
open List in
theorem sorted_keys {l : List (Hand × Hand)} (h : l.length ≤ 1000) : kSorted (kFill [] (l.map fun p => (pd p, PyData.bool true))) = some (.ol (sortD (once (l.map pd)))) := by
  have ek : (l.map fun p => (pd p, PyData.bool true)).map (·.1) = l.map pd := by rw [List.map_map]; rfl
  have kb : ∀ d ∈ (l.map fun p => (pd p, PyData.bool true)).map (·.1), keyB d = true := by
    rw [ek]
    intro d hd
    obtain ⟨p, _, rfl⟩ := List.mem_map.mp hd
    exact (keyT_at (key_pd p)).1
  have pm := keys_once kb
  rw [ek] at pm
  have mem : ∀ x ∈ (kFill [] (l.map fun p => (pd p, PyData.bool true))).map (·.1), x ∈ l.map pd := fun x hx => once_mem (pm.mem_iff.mp hx)
  have so : sortOk ((kFill [] (l.map fun p => (pd p, PyData.bool true))).map (·.1)) = true := by
    refine sortOk_sub (sortOk_pd l h) mem ?_
    have := kFill_len (l.map fun p => (pd p, PyData.bool true)) []
    rw [List.length_nil, List.length_map] at this
    rw [List.length_map, sizeLine_eq]
    omega
  have ss := sort_perm pm (fun d hd e he => alike_pds d (mem d hd) e (mem e he)) fun d hd => by
    obtain ⟨p, _, rfl⟩ := List.mem_map.mp (mem d hd)
    exact (keyT_at (key_pd p)).1
  unfold kSorted
  rw [if_pos so, ss]
def pairsOf (c : List Tell) : List (Hand × Hand) := (rowsOf c).map (·.p)
theorem pairs_told_ok {c : List Tell} (hr : (rowsOf c).length ≤ 1000) : fn_pairs_told [some (.sh (.tuple (c.map cd)))] = .ok (.sh (.tuple (sortD (once ((pairsOf c).map pd))))) [none] := by
  have z := sizeLine_eq
  have e : mKComp2 ((mName 0).bind seqItems) (tTup [tName 2, tName 3]) (M.ret true) ((m2 gIx (mSlot 3) ((M.ret (.int 2)).bind fun d => M.ret (.dat d))).bind seqItems) (tName 4) (M.ret true) (m_pairs_told_e1) (m_pairs_told_e2) [2, 3, 4] [4] [some (.sh (.tuple (c.map cd))), none, none, none, none] =
      .ok (.kd (kFill [] ((c.flatMap fun t => t.2.rows).map fun r => (pd r.p, .bool true)))) [some (.sh (.tuple (c.map cd))), none, none, none, none] := by
    refine kcomp2_pure (f := cd) (fun t => t.2.rows) (f1 := rd) (fun r => pd r.p) (fun _ => .bool true) (by simp! only []) (by unfold rowsOf at hr; omega) (by decide) (fun x _ y _ => key_pd y.p) fun t _ => ⟨[some (.sh (.tuple (c.map cd))), none, some (.sh (.str t.1)), some (.sh (lotD t.2)), none], [some (.sh (.tuple (c.map cd))), none, some (.sh (.str t.1)), some (.sh (lotD t.2)), none], rfl, ?_, rfl, fun r _ => ⟨[some (.sh (.tuple (c.map cd))), none, some (.sh (.str t.1)), some (.sh (lotD t.2)), some (.sh (rd r))], [some (.sh (.tuple (c.map cd))), none, some (.sh (.str t.1)), some (.sh (lotD t.2)), some (.sh (rd r))], [some (.sh (.tuple (c.map cd))), none, some (.sh (.str t.1)), some (.sh (lotD t.2)), some (.sh (rd r))], rfl, ?_, ?_, rfl⟩⟩
    · have g2 : gIx (lotD t.2) (.int 2) = some (.tuple (t.2.rows.map rd)) := rfl
      simp! only [g2]
    · have g0 : gIx (rd r) (.int 0) = some (pd r.p) := rfl
      unfold m_pairs_told_e1
      simp! only [g0]
    · rfl
  have em : ((c.flatMap fun t => t.2.rows).map fun r => (pd r.p, PyData.bool true)) = (pairsOf c).map fun p => (pd p, PyData.bool true) := by unfold pairsOf rowsOf; rw [List.map_map]; rfl
  rw [em] at e
  have ks := sorted_keys (l := pairsOf c) (by unfold pairsOf; rw [List.length_map]; exact hr)
  have gt : ∀ ds : List PyData, gTuple [.list ds] = some (.sh (.tuple ds)) := fun _ => rfl
  unfold fn_pairs_told m_pairs_told
  simp! only [e, v_kcall, v_dck, v_kcO, ks, gt]
end Lw
namespace Lw
open PySem L2 PySem.W PySem.SeqAt Eg
/-! ### held at two towns or more -/
theorem notIn_str {x : Str} {ws : List Str} : gNotIn (.str x) (.tuple (ws.map .str)) = some (.bool (!decide (x ∈ ws))) := by
  show (if small (.str x) = true then some (PyData.bool (!(ws.map PyData.str).any fun y => PyData.eqv y (.str x))) else none) = _
  rw [if_pos (small_str x)]
  congr 3
  rw [List.any_map, Bool.eq_iff_iff, List.any_eq_true, decide_eq_true_iff]
  constructor
  · rintro ⟨y, hy, e⟩
    have e : PyData.eqv (.str y) (.str x) = true := e
    rw [eqv_str] at e
    rw [← of_decide_eq_true e]
    exact hy
  · intro h
    exact ⟨x, h, by show PyData.eqv (.str x) (.str x) = true; rw [eqv_str]; exact decide_eq_true rfl⟩
abbrev Held := (Hand × Hand) × List Str
def heldD (h : Held) : PyData := .tuple [pd h.1, .tuple (h.2.map .str)]
def awake (c : List Tell) (ws : List Str) : List Tell := c.filter fun t => !decide (t.1 ∈ ws)
def heldsOf (c : List Tell) (ws : List Str) (sp : List (Hand × Hand)) : List Held := (sp.map fun p => (p, minesOf (awake c ws) p)).filter fun h => decide (1 < (h.2.length : Int))
theorem held_ok {c : List Tell} {ws : List Str} {sp : List (Hand × Hand)} (hl : c.length ≤ 100) (hr : (rowsOf c).length ≤ 1000) (hs : sortD (once ((pairsOf c).map pd)) = sp.map pd) (hsl : sp.length ≤ 1000) :
    fn_held_twice [some (.sh (.tuple (c.map cd))), some (.sh (.tuple (ws.map .str)))] = .ok (.sh (.tuple ((heldsOf c ws sp).map heldD))) [none, none] := by
  have z := sizeLine_eq
  have e1 : mComp ((mName 0).bind seqItems) (tTup [tName 4, tName 5]) (m_held_twice_t2) (m_held_twice_e1) [4, 5] [some (.sh (.tuple (c.map cd))), some (.sh (.tuple (ws.map .str))), none, none, none, none, none, none] =
      .ok (.ol ((awake c ws).map cd)) [some (.sh (.tuple (c.map cd))), some (.sh (.tuple (ws.map .str))), none, none, none, none, none, none] := by
    refine comp_filt (f := cd) (fun t => !decide (t.1 ∈ ws)) cd (by simp! only []) (by omega) fun t _ => ⟨[some (.sh (.tuple (c.map cd))), some (.sh (.tuple (ws.map .str))), none, none, some (.sh (.str t.1)), some (.sh (lotD t.2)), none, none], [some (.sh (.tuple (c.map cd))), some (.sh (.tuple (ws.map .str))), none, none, some (.sh (.str t.1)), some (.sh (lotD t.2)), none, none], rfl, ?_, rfl, fun _ => ⟨[some (.sh (.tuple (c.map cd))), some (.sh (.tuple (ws.map .str))), none, none, some (.sh (.str t.1)), some (.sh (lotD t.2)), none, none], ?_, rfl⟩⟩
    · unfold m_held_twice_t2
      simp! only [notIn_str]
    · unfold m_held_twice_e1
      simp! only []
      rfl
  have e0 := pairs_told_ok hr
  rw [hs] at e0
  have la : (awake c ws).length ≤ 100 := Nat.le_trans (List.length_filter_le _ _) hl
  obtain ⟨ρ', ⟨o2, o6, ho, rfl⟩, e2⟩ := lc_mapT (t := tName 6) (me := m_held_twice_e3) (vs := [6]) (Inv := fun ρ => ∃ o2 o6 : Option OD, (o2 = some (.ol ((awake c ws).map cd)) ∨ o2 = some (.sh (.list ((awake c ws).map cd)))) ∧ ρ = [some (.sh (.tuple (c.map cd))), some (.sh (.tuple (ws.map .str))), o2, none, none, none, o6, none])
    pd (fun p => heldD (p, minesOf (awake c ws) p)) sp [] [some (.sh (.tuple (c.map cd))), some (.sh (.tuple (ws.map .str))), some (.ol ((awake c ws).map cd)), none, none, none, none, none] ⟨_, _, .inl rfl, rfl⟩ (by rw [List.length_nil]; omega) (by
      rintro p _ ρ ⟨o2, o6, ho, rfl⟩
      have em := mine_at_ok (c := awake c ws) (p := p) (.inr rfl) la
      refine ⟨[some (.sh (.tuple (c.map cd))), some (.sh (.tuple (ws.map .str))), o2, none, none, none, some (.sh (pd p)), none], [some (.sh (.tuple (c.map cd))), some (.sh (.tuple (ws.map .str))), some (.sh (.list ((awake c ws).map cd))), none, none, none, some (.sh (pd p)), none], rfl, ?_, _, _, .inr rfl, rfl⟩
      unfold m_held_twice_e3
      rcases ho with rfl | rfl
      · simp! only [em]
        rfl
      · simp! only [em]
        rfl)
  rw [List.nil_append] at e2
  have rr : ∀ x y : Option OD, restR [some (.sh (.tuple (c.map cd))), some (.sh (.tuple (ws.map .str))), x, none, none, none, none, none] [some (.sh (.tuple (c.map cd))), some (.sh (.tuple (ws.map .str))), y, none, none, none, o6, none] [6] = [some (.sh (.tuple (c.map cd))), some (.sh (.tuple (ws.map .str))), y, none, none, none, none, none] := fun x y => rfl
  have e3 : mComp ((mName 3).bind seqItems) (tTup [tName 6, tName 7]) (m_held_twice_t5) (m_held_twice_e4) [6, 7] [some (.sh (.tuple (c.map cd))), some (.sh (.tuple (ws.map .str))), o2, some (.ol (sp.map fun p => heldD (p, minesOf (awake c ws) p))), none, none, none, none] =
      .ok (.ol ((heldsOf c ws sp).map heldD)) [some (.sh (.tuple (c.map cd))), some (.sh (.tuple (ws.map .str))), o2, some (.sh (.list (sp.map fun p => heldD (p, minesOf (awake c ws) p)))), none, none, none, none] := by
    have em : sp.map (fun p => heldD (p, minesOf (awake c ws) p)) = (sp.map fun p => (p, minesOf (awake c ws) p)).map heldD := by rw [List.map_map]; rfl
    rw [em]
    refine comp_filt (f := heldD) (fun h => decide (1 < (h.2.length : Int))) heldD (by simp! only []) (by rw [List.length_map]; omega) fun h _ => ⟨[some (.sh (.tuple (c.map cd))), some (.sh (.tuple (ws.map .str))), o2, some (.sh (.list ((sp.map fun p => (p, minesOf (awake c ws) p)).map heldD))), none, none, some (.sh (pd h.1)), some (.sh (.tuple (h.2.map .str)))], [some (.sh (.tuple (c.map cd))), some (.sh (.tuple (ws.map .str))), o2, some (.sh (.list ((sp.map fun p => (p, minesOf (awake c ws) p)).map heldD))), none, none, some (.sh (pd h.1)), some (.sh (.tuple (h.2.map .str)))], rfl, ?_, rfl, fun _ => ⟨[some (.sh (.tuple (c.map cd))), some (.sh (.tuple (ws.map .str))), o2, some (.sh (.list ((sp.map fun p => (p, minesOf (awake c ws) p)).map heldD))), none, none, some (.sh (pd h.1)), some (.sh (.tuple (h.2.map .str)))], ?_, rfl⟩⟩
    · unfold m_held_twice_t5
      simp! only [List.length_map]
    · unfold m_held_twice_e4
      simp! only []
      rfl
  have gt : ∀ ds : List PyData, gTuple [.list ds] = some (.sh (.tuple ds)) := fun _ => rfl
  have e2c : mComp (((mCall fn_pairs_told (mCons ((mName 0).bind fun d => M.ret (.dat d)) (mNil))).bind fz).bind seqItems) (tName 6) (M.ret true) (m_held_twice_e3) [6] [some (.sh (.tuple (c.map cd))), some (.sh (.tuple (ws.map .str))), some (.ol ((awake c ws).map cd)), none, none, none, none, none] =
      .ok (.ol (sp.map fun p => heldD (p, minesOf (awake c ws) p))) [some (.sh (.tuple (c.map cd))), some (.sh (.tuple (ws.map .str))), o2, none, none, none, none, none] := by
    simp! only [v_comp, e0]
    rw [e2]
    simp! only [v_cpk, List.length_cons, List.length_nil, rr]
  unfold fn_held_twice m_held_twice
  simp! only [e1, e2c, e3, gt]
/-! ### the law's own -/
theorem has_ok (l : Lot) (town : Str) (p : Hand × Hand) (hl : l.rows.length ≤ 1000) : fn_has [some (.sh (lotD l)), some (.sh (.str town)), some (.sh (pd p))] = .ok (.sh (.bool (mine (ownRow l town p) town))) [none, none, none] := by
  have e1 := own_ok l town p hl
  generalize ownRow l town p = r at e1 ⊢
  have g2 : gIx (rd r) (.int 2) = some (.str r.place) := rfl
  have g6 : gIx (rd r) (.int 6) = some (.bool r.here) := rfl
  have ge := gEq_str2 r.place town
  unfold fn_has m_has mine
  cases h : decide (r.place = town)
  · rw [h] at ge
    simp! only [e1, g2, g6, ge]
  · rw [h] at ge
    simp! only [e1, g2, g6, ge]
theorem gNe_pd (p q : Hand × Hand) : gNe (pd p) (pd q) = some (.bool (!decide (p = q))) := by
  unfold gNe
  rw [eqv_pd, if_pos (pd_small p)]
theorem rd_alike (x y : Row) : alike (rd x) (rd y) = true := by simp [rd, pd, hd, alike, alikeAll]
theorem sortOk_rd (l : List Row) (h : l.length ≤ 1000) : sortOk (l.map rd) = true := by
  have z := sizeLine_eq
  simp only [sortOk, alikeB, Bool.and_eq_true, Bool.or_eq_true, List.all_eq_true, decide_eq_true_eq, List.mem_map, forall_exists_index, and_imp, forall_apply_eq_imp_iff₂, List.length_map]
  exact ⟨⟨⟨fun a _ b _ => rd_alike a b, .inl fun a _ => rfl⟩, fun a _ => decide_eq_true (Nat.le_trans (rd_depth a) (by decide))⟩, by omega⟩
theorem put_ok {l : Lot} {r : Row} (hl : l.rows.length ≤ 100) : ∃ l' : Lot, l'.turn = l.turn ∧ l'.floor = l.floor ∧ l'.rows.length ≤ l.rows.length + 1 ∧ (∀ x ∈ l'.rows, x ∈ l.rows ∨ x = r) ∧
    fn_put [some (.sh (lotD l)), some (.sh (rd r))] = .ok (.sh (lotD l')) [none, none] := by
  have z := sizeLine_eq
  have e1 : mComp ((m2 gIx (mSlot 0) ((M.ret (.int 2)).bind fun d => M.ret (.dat d))).bind seqItems) (tName 3) (m_put_t2) (m_put_e1) [3] [some (.sh (lotD l)), some (.sh (rd r)), none, none] =
      .ok (.ol ((l.rows.filter fun x => !decide (x.p = r.p)).map rd)) [some (.sh (lotD l)), some (.sh (rd r)), none, none] := by
    have g2 : gIx (lotD l) (.int 2) = some (.tuple (l.rows.map rd)) := rfl
    refine comp_filt (f := rd) (fun x => !decide (x.p = r.p)) rd (by simp! only [g2]) (by omega) fun x _ => ⟨[some (.sh (lotD l)), some (.sh (rd r)), none, some (.sh (rd x))], [some (.sh (lotD l)), some (.sh (rd r)), none, some (.sh (rd x))], rfl, ?_, rfl, fun _ => ⟨[some (.sh (lotD l)), some (.sh (rd r)), none, some (.sh (rd x))], ?_, rfl⟩⟩
    · have g0 : gIx (rd x) (.int 0) = some (pd x.p) := rfl
      have g1 : gIx (rd r) (.int 0) = some (pd r.p) := rfl
      unfold m_put_t2
      simp! only [g0, g1, gNe_pd]
    · unfold m_put_e1
      simp! only []
  have ll : (l.rows.filter fun x => !decide (x.p = r.p)).length ≤ l.rows.length := List.length_filter_le _ _
  obtain ⟨rows', pm, er⟩ := perm_map (f := rd) (List.mergeSort_perm (((l.rows.filter fun x => !decide (x.p = r.p)) ++ [r]).map rd) (dataLe false id)) rfl
  have gs : gSorted [.list (((l.rows.filter fun x => !decide (x.p = r.p)) ++ [r]).map rd)] = some (.ol (rows'.map rd)) := by
    show (if sortOk _ = true then some (OD.ol (sortD _)) else none) = _
    rw [if_pos (sortOk_rd _ (by rw [List.length_append, List.length_singleton]; omega))]
    unfold sortD
    rw [er]
  have ad : aAdd (.list ((l.rows.filter fun x => !decide (x.p = r.p)).map rd)) (.list [rd r]) = some (.ol (((l.rows.filter fun x => !decide (x.p = r.p)) ++ [r]).map rd)) := by
    show (if _ then _ else _) = _
    rw [if_pos (by rw [List.length_map, List.length_singleton]; omega), List.map_append]
    rfl
  refine ⟨⟨l.turn, l.floor, rows'⟩, rfl, rfl, ?_, fun x hx => ?_, ?_⟩
  · have := pm.length_eq
    rw [List.length_append, List.length_singleton] at this
    show rows'.length ≤ _
    omega
  · have := pm.mem_iff.mp hx
    rcases List.mem_append.mp this with h | h
    · exact .inl (List.mem_filter.mp h).1
    · exact .inr (by simpa using h)
  · have g0 : gIx (lotD l) (.int 0) = some (.int l.turn) := rfl
    have g1 : gIx (lotD l) (.int 1) = some (.int l.floor) := rfl
    have gt : ∀ ds : List PyData, gTuple [.list ds] = some (.sh (.tuple ds)) := fun _ => rfl
    unfold fn_put m_put
    simp! only [e1, g0, g1, ad, gs, gt]
    rfl
end Lw
namespace Lw
open PySem L2 PySem.W PySem.SeqAt Eg
def far : Hand := ("far", "a")
def farL : List Str := ["far"]
theorem farL_len : farL.length = 1 := rfl
instance : DecidablePred fun h : Hand => StrF h.1 ∧ StrF h.2 := fun h => inferInstance
theorem fine3 : ∀ h ∈ allOf five ++ [far], StrF h.1 ∧ StrF h.2 := by decide +kernel
theorem nodup3 : (allOf five ++ [far]).Nodup := by decide +kernel
theorem five_fine : ∀ x ∈ five, StrF x := by decide +kernel
theorem allOf_mem {ts us : List Str} (h : List.Sublist ts us) : List.Sublist (allOf ts) (allOf us) := by
  induction h with
  | slnil => exact List.Sublist.slnil
  | cons a _ ih => exact ih.trans (List.sublist_append_right _ _)
  | cons_cons a _ ih => exact List.Sublist.append (List.Sublist.refl _) ih
theorem hands3 {ts : List Str} {P R : List Hand} (hs : List.Sublist ts five) (p : (P ++ R).Perm (allOf ts)) : (P ++ [far]).Nodup ∧ ∀ h ∈ P ++ [far], StrF h.1 ∧ StrF h.2 := by
  have s1 : List.Sublist (allOf ts ++ [far]) (allOf five ++ [far]) := List.Sublist.append (allOf_mem hs) (List.Sublist.refl _)
  have p2 : ((P ++ R) ++ [far]).Perm (allOf ts ++ [far]) := p.append_right _
  have s2 : List.Sublist (P ++ [far]) ((P ++ R) ++ [far]) := List.Sublist.append (List.sublist_append_left _ _) (List.Sublist.refl _)
  exact ⟨s2.nodup (p2.nodup_iff.mpr (s1.nodup nodup3)), fun h hh => fine3 h (s1.mem (p2.mem_iff.mp (s2.mem hh)))⟩
theorem rise_of : ∀ {l : List Hand} {p : Hand × Hand}, p ∈ rise l → p.1 ∈ l ∧ p.2 ∈ l
  | x :: xs, p, hp => by
    rcases List.mem_append.mp hp with z | z
    · obtain ⟨y, hy, rfl⟩ := List.mem_map.mp z
      exact ⟨List.mem_cons_self, List.mem_cons_of_mem _ hy⟩
    · have := rise_of (l := xs) z
      exact ⟨List.mem_cons_of_mem _ this.1, List.mem_cons_of_mem _ this.2⟩
theorem rise_len : ∀ l : List Hand, 2 * (rise l).length + l.length = l.length * l.length
  | [] => rfl
  | x :: xs => by
    have ih := rise_len xs
    simp only [rise, List.length_append, List.length_map, List.length_cons, Nat.mul_add, Nat.add_mul]
    omega
theorem sortH_len (l : List Hand) : (sortH l).length = l.length := (sortH_perm l).length_eq
theorem rise_fine3 {l : List Hand} (h : ∀ x ∈ l, StrF x.1 ∧ StrF x.2) : ∀ p ∈ rise (sortH l), PairF p := fun p hp => by
  obtain ⟨a, b⟩ := rise_of hp
  exact ⟨h _ ((sortH_perm l).mem_iff.mp a), h _ ((sortH_perm l).mem_iff.mp b)⟩
def lotN : Lot := ⟨0, 0, []⟩
theorem snoc_map {α β : Type} (f : α → β) (l : List α) (x : α) : (l ++ [x]).map f = l.map f ++ [f x] := by rw [List.map_append]; rfl
theorem lot0 : LotF lotN := ⟨int0, int0, Nat.zero_le _, fun r h => by cases h⟩
theorem lot_new2 {kvs : List (Key × PyData)} {k : Nat} {ts : List Str} {ps : List (Hand × Hand)} (h : TapAt kvs k) (hk : k < 100000) (h1 : 1 ≤ ts.length) (h2 : ts.length ≤ 100) (hp : ∀ p ∈ ps, PairF p) (hl : ps.length ≤ 100) (hs : ∀ x ∈ ts, StrF x) : ∃ (l : Lot) (kvs' : List (Key × PyData)), LotF l ∧ l.rows.length ≤ ps.length ∧ TapAt kvs' (k + 3000) ∧
    fn_lot [some (.od kvs), some (.sh (.list (ps.map pd))), some (.sh (.list (ts.map .str)))] = .ok (.sh (lotD l)) [some (.od kvs'), none, none] := by
  obtain ⟨rows, k1, o4', rs, rl, t1, e1⟩ := lot_loop (o1 := some (.sh (.list (ps.map pd)))) h1 h2 hs ps [] kvs k none none h (by omega) (by rw [List.length_nil]; omega) hp
  obtain ⟨v2, k2, a2, b2, t2, e2⟩ := take_at t1 (by omega) (show (0 : Int) < 3 by decide) (by decide)
  obtain ⟨v3, k3, a3, b3, t3, e3⟩ := take_at t2 (by omega) (show (0 : Int) < 30 by decide) (by decide)
  refine ⟨⟨v2, v3, rows⟩, k3, ⟨intF30 a2 (Int.lt_trans b2 (by decide)), intF30 a3 b3, by show rows.length ≤ 100; omega, rs⟩, rl, t3.mono (by omega), ?_⟩
  rw [List.nil_append, List.map_nil] at e1
  have gt : ∀ ds : List PyData, gTuple [.list ds] = some (.sh (.tuple ds)) := fun _ => rfl
  unfold fn_lot m_lot
  simp? only [v_comp]
  unfold lotT lotE at e1
  rw [e1]
  simp? only [v_cpk, List.length_cons, List.length_nil, v_rs0, v_rs1, gt, e2, e3, tg3]
  rfl
/-- what a town tells, as drawn -/
structure TellF (n : Nat) (t : Tell) : Prop where
  name : StrF t.1
  lot : LotF t.2
  rows : t.2.rows.length ≤ n
theorem TellF.mono {n m : Nat} {t : Tell} (h : TellF n t) (l : n ≤ m) : TellF m t := ⟨h.name, h.lot, Nat.le_trans h.rows l⟩
theorem farF : StrF "far" := by decide +kernel
theorem cast_ok {kvs : List (Key × PyData)} {k : Nat} {ts : List Str} {ps : List (Hand × Hand)} (h : TapAt kvs k) (hk : k + 3100 * ts.length < 90000) (h2 : ts.length ≤ 90) (hp : ∀ p ∈ ps, PairF p) (hl : ps.length ≤ 100) (hs : ∀ x ∈ ts, StrF x) :
    ∃ (c : List Tell) (kvs' : List (Key × PyData)), c.length = ts.length ∧ (∀ t ∈ c, TellF ps.length t) ∧ TapAt kvs' (k + 3100 * ts.length) ∧
      fn_cast [some (.od kvs), some (.sh (.list (ts.map .str))), some (.sh (.list (ps.map pd)))] = .ok (.sh (.tuple (c.map cd))) [some (.od kvs'), none, none] := by
  have z := sizeLine_eq
  have adT : aAdd (.list (ts.map .str)) (.list [.str "far"]) = some (.ol ((ts ++ farL).map .str)) := by
    have : (ts.map PyData.str).length + [PyData.str "far"].length ≤ sizeLine := by rw [List.length_map, List.length_singleton]; omega
    simp only [aAdd]
    rw [if_pos this, List.map_append]
    rfl
  have h2' : (ts ++ farL).length ≤ 100 := by rw [List.length_append, farL_len]; omega
  have h1' : 1 ≤ (ts ++ farL).length := by rw [List.length_append, farL_len]; omega
  have hs' : ∀ x ∈ ts ++ farL, StrF x := fun x hx => by
    rcases List.mem_append.mp hx with q | q
    · exact hs x q
    · simp [farL] at q; rw [q]; exact farF
  have l0 : lstG [] = some (.ol []) := if_pos (Nat.zero_le _)
  have t0 : tupG [] = some (.tuple []) := if_pos (Nat.zero_le _)
  have lg1 : ∀ a : PyData, lstG [a] = some (.ol [a]) := fun a => if_pos (show 1 ≤ sizeLine by decide)
  obtain ⟨ρ', e, ⟨_, _, acc, kvs', b1, b2, b4, la, ga, ht, hb1, hb2, rfl⟩⟩ := loop_inv (f := PyData.str) (t := tName 4) (b := m_cast_b1) (fun rest ρ => (∀ x ∈ rest, StrF x) ∧ rest.length ≤ ts.length ∧ ∃ (acc : List Tell) (kvs' : List (Key × PyData)) (b1 b2 b4 : Option OD), acc.length + rest.length = ts.length ∧ (∀ t ∈ acc, TellF ps.length t) ∧
      TapAt kvs' (k + 3100 * acc.length) ∧ b1 = some (.sh (.list (ts.map .str))) ∧ b2 = some (.sh (.list (ps.map pd))) ∧ ρ = [some (.od kvs'), b1, b2, some (.ol (acc.map cd)), b4]) (by
    rintro x rest ρ ⟨hx, hll, acc, kvs', b1, b2, b4, la, ga, ht, rfl, rfl, rfl⟩
    rw [List.length_cons] at la hll
    obtain ⟨v1, kv1, a1, c1, t1, e1⟩ := take_at ht (by omega) (show (0 : Int) < 5 by decide) (by decide)
    have lt : (acc.map cd).length < sizeLine := by rw [List.length_map]; omega
    by_cases hv : v1 = 0
    · subst hv
      refine ⟨[some (.od kvs'), some (.sh (.list (ts.map .str))), some (.sh (.list (ps.map pd))), some (.ol (acc.map cd)), some (.sh (.str x))], [some (.od kv1), some (.sh (.list (ts.map .str))), some (.sh (.list (ps.map pd))), some (.ol ((acc ++ [(x, lotN)]).map cd)), some (.sh (.str x))], rfl, .inl ?_, fun y hy => hx y (List.mem_cons_of_mem _ hy), by omega, acc ++ [(x, lotN)], kv1, _, _, _, by rw [List.length_append, List.length_singleton]; omega, fun t ht => ?_, t1.mono (by rw [List.length_append, List.length_singleton]; omega), rfl, rfl, rfl⟩
      · rw [snoc_map]
        unfold m_cast_b1
        simp! only [e1, t0, lt]
        rfl
      · rcases List.mem_append.mp ht with q | q
        · exact ga t q
        · simp at q; subst q; exact ⟨hx _ List.mem_cons_self, lot0, Nat.zero_le _⟩
    · obtain ⟨l, kv2, lf, lr, t2, e2⟩ := lot_new2 t1 (by omega) h1' h2' hp hl hs'
      refine ⟨[some (.od kvs'), some (.sh (.list (ts.map .str))), some (.sh (.list (ps.map pd))), some (.ol (acc.map cd)), some (.sh (.str x))], [some (.od kv2), some (.sh (.list (ts.map .str))), some (.sh (.list (ps.map pd))), some (.ol ((acc ++ [(x, l)]).map cd)), some (.sh (.str x))], rfl, .inl ?_, fun y hy => hx y (List.mem_cons_of_mem _ hy), by omega, acc ++ [(x, l)], kv2, _, _, _, by rw [List.length_append, List.length_singleton]; omega, fun t ht => ?_, t2.mono (by rw [List.length_append, List.length_singleton]; omega), rfl, rfl, rfl⟩
      · rw [snoc_map]
        unfold m_cast_b1
        simp! only [e1, e2, hv, lg1, adT, lt]
        rfl
      · rcases List.mem_append.mp ht with q | q
        · exact ga t q
        · simp at q; subst q; exact ⟨hx _ List.mem_cons_self, lf, lr⟩) ts [some (.od kvs), some (.sh (.list (ts.map .str))), some (.sh (.list (ps.map pd))), some (.ol []), none]
    ⟨hs, Nat.le_refl _, [], kvs, _, _, none, by rw [List.length_nil]; omega, (fun t ht => by cases ht), h.mono (by omega), rfl, rfl, rfl⟩
  rw [List.length_nil] at la
  have la : acc.length = ts.length := by omega
  subst hb1 hb2
  refine ⟨acc, kvs', la, ga, by rw [← la]; exact ht, ?_⟩
  have gt : ∀ ds : List PyData, gTuple [.list ds] = some (.sh (.tuple ds)) := fun _ => rfl
  unfold fn_cast m_cast
  simp! only [l0]
  rw [e]
  simp! only [gt]
theorem int1 : IntF 1 := by decide +kernel
/-- a row laid at a town -/
def near1 (x : Str) (p : Hand × Hand) (v : Int) : Row := ⟨p, 1, v, x, "far", 0, 0, true⟩
theorem near_in {kvs : List (Key × PyData)} {k n : Nat} {x : Str} {o1 o3 o4' : Option OD} {qs : List (Hand × Hand)} (hx : StrF x) : ∀ (ps : List (Hand × Hand)) (l : Lot) (kvs : List (Key × PyData)) (k : Nat) (o6 : Option OD), TapAt kvs k → k + 10 * ps.length < 90000 → LotF l → l.rows.length + ps.length ≤ 100 → (∀ p ∈ ps, PairF p) →
    ∃ (l' : Lot) (kvs' : List (Key × PyData)) (o6' : Option OD), LotF l' ∧ l'.rows.length ≤ l.rows.length + ps.length ∧ TapAt kvs' (k + 10 * ps.length) ∧
      sLoop (tName 6) m_near_b1 (ps.map pd) [some (.od kvs), o1, some (.sh (.list (qs.map pd))), o3, some (.sh (.str x)), some (.sh (lotD l)), o6] = .ok .nx [some (.od kvs'), o1, some (.sh (.list (qs.map pd))), o3, some (.sh (.str x)), some (.sh (lotD l')), o6']
  | [], l, kvs, k, o6, ht, _, lf, _, _ => ⟨l, kvs, o6, lf, Nat.le_refl _, ht, rfl⟩
  | p :: ps, l, kvs, k, o6, ht, hk, lf, hr, hp => by
    rw [List.length_cons] at hk hr
    obtain ⟨v1, kv1, a1, c1, t1, e1⟩ := take_at ht (by omega) (show (0 : Int) < 2 by decide) (by decide)
    have tn : tName 6 (pd p) [some (.od kvs), o1, some (.sh (.list (qs.map pd))), o3, some (.sh (.str x)), some (.sh (lotD l)), o6] = some [some (.od kvs), o1, some (.sh (.list (qs.map pd))), o3, some (.sh (.str x)), some (.sh (lotD l)), some (.sh (pd p))] := rfl
    by_cases hv : v1 = 0
    · subst hv
      obtain ⟨v2, kv2, a2, c2, t2, e2⟩ := take_at t1 (by omega) (show (0 : Int) < 3 by decide) (by decide)
      obtain ⟨l', lt, lfl, ll, lm, e3⟩ := put_ok (l := l) (r := near1 x p v2) lf.len
      have rf : RowF (near1 x p v2) := ⟨hp p List.mem_cons_self, int1, intF30 a2 (Int.lt_trans c2 (by decide)), hx, farF, int0, int0⟩
      have lf' : LotF l' := ⟨by rw [lt]; exact lf.turn, by rw [lfl]; exact lf.floor, by omega, fun r hr => by
        rcases lm r hr with q | q
        · exact lf.rows r q
        · rw [q]; exact rf⟩
      obtain ⟨l2, kv3, o6', lf2, ll2, t3, e4⟩ := near_in (kvs := kvs) (k := k) (n := n) (o1 := o1) (o3 := o3) (o4' := o4') (qs := qs) hx ps l' kv2 _ (some (.sh (pd p))) t2 (by omega) lf' (by omega) fun q hq => hp q (List.mem_cons_of_mem _ hq)
      refine ⟨l2, kv3, o6', lf2, by rw [List.length_cons]; omega, t3.mono (by rw [List.length_cons]; omega), ?_⟩
      have eb : m_near_b1 [some (.od kvs), o1, some (.sh (.list (qs.map pd))), o3, some (.sh (.str x)), some (.sh (lotD l)), some (.sh (pd p))] = .ok .nx [some (.od kv2), o1, some (.sh (.list (qs.map pd))), o3, some (.sh (.str x)), some (.sh (lotD l')), some (.sh (pd p))] := by
        have en : rd (near1 x p v2) = .tuple [pd p, .tuple [.int 1, .int v2], .str x, .str "far", .int 0, .int 0, .bool true] := rfl
        rw [en] at e3
        unfold m_near_b1
        simp! only [e1, e2, e3]
      rw [List.map_cons, v_lp1, tn, v_lpO, eb]
      exact e4
    · obtain ⟨l2, kv3, o6', lf2, ll2, t3, e4⟩ := near_in (kvs := kvs) (k := k) (n := n) (o1 := o1) (o3 := o3) (o4' := o4') (qs := qs) hx ps l kv1 _ (some (.sh (pd p))) t1 (by omega) lf (by omega) fun q hq => hp q (List.mem_cons_of_mem _ hq)
      refine ⟨l2, kv3, o6', lf2, by rw [List.length_cons]; omega, t3.mono (by rw [List.length_cons]; omega), ?_⟩
      have eb : m_near_b1 [some (.od kvs), o1, some (.sh (.list (qs.map pd))), o3, some (.sh (.str x)), some (.sh (lotD l)), some (.sh (pd p))] = .ok .nx [some (.od kv1), o1, some (.sh (.list (qs.map pd))), o3, some (.sh (.str x)), some (.sh (lotD l)), some (.sh (pd p))] := by
        unfold m_near_b1
        simp! only [e1, hv]
      rw [List.map_cons, v_lp1, tn, v_lpO, eb]
      exact e4
theorem near_ok {kvs : List (Key × PyData)} {k n : Nat} {c : List Tell} {ps : List (Hand × Hand)} (h : TapAt kvs k) (hk : k + 1100 * c.length < 80000) (hc : c.length ≤ 100) (hp : ∀ p ∈ ps, PairF p) (hl : ps.length ≤ 5) (gc : ∀ t ∈ c, TellF n t) (hn : n ≤ 90) :
    ∃ (c' : List Tell) (kvs' : List (Key × PyData)), c'.length = c.length ∧ (∀ t ∈ c', TellF (n + 5) t) ∧ TapAt kvs' (k + 1100 * c.length) ∧
      fn_near [some (.od kvs), some (.sh (.tuple (c.map cd))), some (.sh (.list (ps.map pd)))] = .ok (.sh (.tuple (c'.map cd))) [some (.od kvs'), none, none] := by
  have z := sizeLine_eq
  have l0 : lstG [] = some (.ol []) := if_pos (Nat.zero_le _)
  obtain ⟨ρ', e, ⟨_, acc, kvs', b4, b5, b6, la, ga, ht, rfl⟩⟩ := loop_inv (f := cd) (t := tTup [tName 4, tName 5]) (b := m_near_b2) (fun rest ρ => (∀ x ∈ rest, TellF n x) ∧ ∃ (acc : List Tell) (kvs' : List (Key × PyData)) (b4 b5 b6 : Option OD), acc.length + rest.length = c.length ∧ (∀ t ∈ acc, TellF (n + 5) t) ∧
      TapAt kvs' (k + 1100 * acc.length) ∧ ρ = [some (.od kvs'), some (.sh (.tuple (c.map cd))), some (.sh (.list (ps.map pd))), some (.ol (acc.map cd)), b4, b5, b6]) (by
    rintro t rest ρ ⟨hx, acc, kvs', b4, b5, b6, la, ga, ht, rfl⟩
    rw [List.length_cons] at la
    have gt := hx t List.mem_cons_self
    have gr := gt.rows
    obtain ⟨l', kv2, o6', lf2, ll2, t2, e2⟩ := near_in (kvs := kvs) (k := k) (n := n) (o1 := some (.sh (.tuple (c.map cd)))) (o3 := some (.ol (acc.map cd))) (o4' := none) (qs := ps) gt.name ps t.2 kvs' _ b6 ht (by omega) gt.lot (by omega) hp
    have lt : (acc.map cd).length < sizeLine := by rw [List.length_map]; omega
    refine ⟨[some (.od kvs'), some (.sh (.tuple (c.map cd))), some (.sh (.list (ps.map pd))), some (.ol (acc.map cd)), some (.sh (.str t.1)), some (.sh (lotD t.2)), b6], [some (.od kv2), some (.sh (.tuple (c.map cd))), some (.sh (.list (ps.map pd))), some (.ol ((acc ++ [(t.1, l')]).map cd)), some (.sh (.str t.1)), some (.sh (lotD l')), o6'], rfl, .inl ?_, fun y hy => hx y (List.mem_cons_of_mem _ hy), acc ++ [(t.1, l')], kv2, _, _, _, by rw [List.length_append, List.length_singleton]; omega, fun u hu => ?_, t2.mono (by rw [List.length_append, List.length_singleton]; omega), rfl⟩
    · rw [snoc_map]
      unfold m_near_b2
      simp! only []
      rw [e2]
      simp! only [lt, List.map_append]
      rfl
    · rcases List.mem_append.mp hu with q | q
      · exact ga u q
      · simp at q; subst q; exact ⟨gt.name, lf2, by show l'.rows.length ≤ _; omega⟩) c [some (.od kvs), some (.sh (.tuple (c.map cd))), some (.sh (.list (ps.map pd))), some (.ol []), none, none, none]
    ⟨gc, [], kvs, none, none, none, by rw [List.length_nil]; omega, (fun t ht => by cases ht), h.mono (by omega), rfl⟩
  rw [List.length_nil] at la
  have la : acc.length = c.length := by omega
  refine ⟨acc, kvs', la, ga, by rw [← la]; exact ht, ?_⟩
  have gt : ∀ ds : List PyData, gTuple [.list ds] = some (.sh (.tuple ds)) := fun _ => rfl
  unfold fn_near m_near
  simp! only [l0]
  rw [e]
  simp! only [gt]
end Lw
namespace Lw
open PySem L2 PySem.W PySem.SeqAt Eg
/-! ### four towns at most -/
theorem towns_loop4 {many : Int} (hm : 0 ≤ many) {o1 : Option OD} : ∀ (n f : Nat) (pool : List PyData) (kvs : List (Key × PyData)) (k : Nat), pool.length ≤ n → n < f → pool.length < 100 → TapAt kvs k → k + n < 1000000 →
    ∃ pool' kvs', List.Sublist pool' pool ∧ TapAt kvs' (k + n) ∧ (many ≤ pool.length → many ≤ pool'.length) ∧ (pool'.length : Int) ≤ many ∧ sWhile townsT townsB f [some (.od kvs), o1, some (.ol pool), some (.sh (.int many))] = .ok .nx [some (.od kvs'), o1, some (.ol pool'), some (.sh (.int many))] := by
  intro n
  induction n with
  | zero =>
    intro f pool kvs k hp hf _ ht _
    obtain ⟨f, rfl⟩ : ∃ g, f = g + 1 := ⟨f - 1, by omega⟩
    have e0 : ¬ many < (pool.length : Int) := by omega
    refine ⟨pool, kvs, List.Sublist.refl _, ht, fun h => h, by omega, ?_⟩
    rw [v_wh]
    unfold townsT
    simp? only [Eg.gLen_list, gGt_int, e0, decide_false]
  | succ n ih =>
    intro f pool kvs k hp hf h100 ht hk
    obtain ⟨f, rfl⟩ : ∃ g, f = g + 1 := ⟨f - 1, by omega⟩
    by_cases e0 : many < (pool.length : Int)
    · obtain ⟨v, kvs1, v0, v1, t1, e1⟩ := take_at ht (by omega) (show (0 : Int) < (pool.length : Int) by omega) (by omega)
      obtain ⟨y, ey, ep⟩ := v_popk (i := 2) (xs := pool) v0 v1 (by omega)
      have lt1 : v.toNat < pool.length := by omega
      obtain ⟨pool', kvs', s1, t2, lm, lu, e2⟩ := ih f (pool.eraseIdx v.toNat) kvs1 (k + 1) (by rw [List.length_eraseIdx_of_lt lt1]; omega) (by omega) (by rw [List.length_eraseIdx_of_lt lt1]; omega) t1 (by omega)
      refine ⟨pool', kvs', s1.trans (List.eraseIdx_sublist _ _), t2.mono (by omega), fun _ => lm (by rw [List.length_eraseIdx_of_lt lt1]; omega), lu, ?_⟩
      rw [v_wh]
      have tt : townsT [some (.od kvs), o1, some (.ol pool), some (.sh (.int many))] = .ok true [some (.od kvs), o1, some (.ol pool), some (.sh (.int many))] := by
        unfold townsT
        simp? only [Eg.gLen_list, gGt_int, e0, decide_true]
      have bb : townsB [some (.od kvs), o1, some (.ol pool), some (.sh (.int many))] = .ok .nx [some (.od kvs1), o1, some (.ol (pool.eraseIdx v.toNat)), some (.sh (.int many))] := by
        unfold townsB
        simp? only [Eg.gLen_list, v_pop, e1, ep]
      rw [tt]
      simp? only [bb, v_whn]
      exact e2
    · refine ⟨pool, kvs, List.Sublist.refl _, ht.mono (by omega), fun h => h, by omega, ?_⟩
      rw [v_wh]
      unfold townsT
      simp? only [Eg.gLen_list, gGt_int, e0, decide_false]
theorem towns_ok4 {kvs : List (Key × PyData)} {k : Nat} {least : Int} (h : TapAt kvs k) (hk : k < 90000) (hl : 0 ≤ least) : ∃ (ts : List Str) (kvs' : List (Key × PyData)), List.Sublist ts five ∧ ts.length ≤ 4 ∧ (1 ≤ least → 1 ≤ ts.length) ∧ TapAt kvs' (k + 10) ∧
    fn_towns [some (.od kvs), some (.sh (.int least))] = .ok (.ol (ts.map .str)) [some (.od kvs'), none] := by
  obtain ⟨v, kvs1, v0, v1, t1, e1⟩ := take_at h (by omega) (show (0 : Int) < 3 by decide) (by decide)
  have hm : 0 ≤ (if least + v < 4 then least + v else 4) := by split <;> omega
  obtain ⟨pool', kvs', s1, t2, lm, lu, e2⟩ := towns_loop4 hm (o1 := some (.sh (.int least))) 5 100 (five.map .str) kvs1 (k + 1) (by decide) (by decide) (by decide) t1 (by omega)
  obtain ⟨ts, hts, rfl⟩ := List.sublist_map_iff.mp s1
  refine ⟨ts, kvs', hts, ?_, fun h1 => ?_, t2.mono (by omega), ?_⟩
  · rw [List.length_map] at lu
    split at lu <;> omega
  · simp only [List.length_map] at lm
    have h5 : (five.length : Int) = 5 := rfl
    have l5 : (if least + v < 4 then least + v else 4) ≤ (five.length : Int) := by rw [h5]; split <;> omega
    have := lm l5
    split at this <;> omega
  have l5 : ∀ a b c d e : PyData, lstG [a, b, c, d, e] = some (.ol [a, b, c, d, e]) := fun _ _ _ _ _ => if_pos (show 5 ≤ sizeLine by decide)
  unfold fn_towns m_towns
  simp? only [l5, e1, aAdd, gMin_int]
  have e2' := e2
  unfold townsT townsB five at e2'
  simp only [List.map_cons, List.map_nil] at e2'
  rw [e2']
  simp? only []
/-! ### what is shown -/
theorem names_sh {l : List Str} (h : ∀ x ∈ l, StrF x) (hl : l.length ≤ 10) : Sh 523 1 (.tuple (l.map .str)) := Sh.tuple (n := 50) (k := 0) (m := 10) (fun d hd => by
  obtain ⟨x, hx, rfl⟩ := List.mem_map.mp hd
  exact Sh.strF (h x hx)) (by rw [List.length_map]; exact hl)
theorem lot_sh {l : Lot} (h : LotF l) : Sh 469818 5 (lotD l) := by
  have s1 : Sh 156603 4 (.tuple (l.rows.map rd)) := Sh.tuple (n := 1564) (k := 3) (m := 100) (fun d hd => by obtain ⟨r, hr, rfl⟩ := List.mem_map.mp hd; exact Sh.rd (h.rows r hr)) (by rw [List.length_map]; exact h.len)
  refine Sh.tuple (n := 156603) (k := 4) (m := 3) (fun d hd => ?_) (Nat.le_refl _)
  simp at hd
  rcases hd with rfl | rfl | rfl
  · exact (Sh.int h.turn).mono (by decide) (by decide)
  · exact (Sh.int h.floor).mono (by decide) (by decide)
  · exact s1
theorem tells_repr {n : Nat} {c : List Tell} (h : ∀ t ∈ c, TellF n t) (hl : c.length ≤ 10) : gRepr [.tuple (c.map cd)] = some (.sh (.str (PyData.tuple (c.map cd)).shown)) := by
  refine Sh.repr (Sh.tuple (n := 939643) (k := 6) (m := 10) (fun d hd => ?_) (by rw [List.length_map]; exact hl)) (by decide) (by decide)
  obtain ⟨t, ht, rfl⟩ := List.mem_map.mp hd
  refine Sh.tuple (n := 469818) (k := 5) (m := 2) (fun d hd => ?_) (Nat.le_refl _)
  simp at hd
  rcases hd with rfl | rfl
  · exact (Sh.strF (h t ht).name).mono (by decide) (by decide)
  · exact lot_sh (h t ht).lot
theorem mines_mem {c : List Tell} {p : Hand × Hand} {x : Str} (h : x ∈ minesOf c p) : ∃ t ∈ c, x = t.1 := by
  obtain ⟨t, ht, e⟩ := List.mem_map.mp h
  exact ⟨t, (List.mem_filter.mp ht).1, e.symm⟩
theorem mines_len (c : List Tell) (p : Hand × Hand) : (minesOf c p).length ≤ c.length := by
  unfold minesOf
  rw [List.length_map]
  exact List.length_filter_le _ _
theorem held_sh {n : Nat} {c : List Tell} {ws : List Str} {sp : List (Hand × Hand)} (h : ∀ t ∈ c, TellF n t) (hl : c.length ≤ 10) (hp : ∀ p ∈ sp, PairF p) (hs : sp.length ≤ 1000) : gRepr [.tuple ((heldsOf c ws sp).map heldD)] = some (.sh (.str (PyData.tuple ((heldsOf c ws sp).map heldD)).shown)) := by
  refine Sh.repr (Sh.tuple (n := 1053) (k := 2 + 1) (m := 1000) (fun d hd => ?_) ?_) (by decide) (by decide)
  · obtain ⟨x, hx, rfl⟩ := List.mem_map.mp hd
    obtain ⟨p, hp', rfl⟩ := List.mem_map.mp (List.mem_filter.mp hx).1
    refine Sh.tuple (n := 523) (k := 2) (m := 2) (fun d hd => ?_) (Nat.le_refl _)
    simp at hd
    rcases hd with rfl | rfl
    · exact (Sh.pd (hp p hp')).mono (by decide) (by decide)
    · refine (names_sh (fun x hx => ?_) ?_).mono (by decide) (by decide)
      · obtain ⟨t, ht, rfl⟩ := mines_mem hx
        exact (h t (List.mem_filter.mp ht).1).name
      · exact Nat.le_trans (mines_len _ _) (Nat.le_trans (List.length_filter_le _ _) hl)
  · rw [List.length_map]
    refine Nat.le_trans (List.length_filter_le _ _) ?_
    rw [List.length_map]
    exact hs
theorem mines_awake (c : List Tell) (ws : List Str) (p : Hand × Hand) : (minesOf c p).filter (fun x => !decide (x ∈ ws)) = minesOf (awake c ws) p := by
  unfold minesOf awake
  rw [List.filter_map, List.filter_filter, List.filter_filter]
  congr 1
  exact List.filter_congr fun t _ => Bool.and_comm _ _
theorem held_snoc (c : List Tell) (ws : List Str) (sp : List (Hand × Hand)) (p : Hand × Hand) : heldsOf c ws (sp ++ [p]) = heldsOf c ws sp ++ (if 1 < ((minesOf (awake c ws) p).length : Int) then [(p, minesOf (awake c ws) p)] else []) := by
  unfold heldsOf
  rw [List.map_append, List.filter_append, List.map_cons, List.map_nil, List.filter_cons]
  by_cases h : 1 < ((minesOf (awake c ws) p).length : Int)
  · rw [if_pos h]
    simp [h]
  · rw [if_neg h]
    simp [h]
/-! ### the law -/
section
variable {o0 o1 o2 o3 o4 o5 o7 o9 o10 o11 o12 o13 o14 o15 : Option OD} {c : List Tell} {ws : List Str}
theorem seen_ok (hr : ∀ t ∈ c, TellF 15 t) (hl : c.length ≤ 10) :
    ∃ b9 b10, sLoop (tTup [tName 9, tName 10]) m_law_k14_b2 (c.map cd) [o0, o1, o2, o3, o4, o5, some (.sh (.tuple (c.map cd))), o7, some (.ol []), o9, o10, o11, o12, o13, o14, o15] =
      .ok .nx [o0, o1, o2, o3, o4, o5, some (.sh (.tuple (c.map cd))), o7, some (.ol ((pairsOf c).map pd)), b9, b10, o11, o12, o13, o14, o15] := by
  have z := sizeLine_eq
  obtain ⟨ρ', e, ⟨_, done, b9, b10, dc, dl, rfl⟩⟩ := loop_inv (f := cd) (t := tTup [tName 9, tName 10]) (b := m_law_k14_b2) (fun rest ρ => (∀ t ∈ rest, TellF 15 t) ∧ ∃ (done : List Tell) (b9 b10 : Option OD), done ++ rest = c ∧ (pairsOf done).length ≤ 15 * done.length ∧ ρ = [o0, o1, o2, o3, o4, o5, some (.sh (.tuple (c.map cd))), o7, some (.ol ((pairsOf done).map pd)), b9, b10, o11, o12, o13, o14, o15]) (by
    rintro t rest ρ ⟨ht, done, b9, b10, dc, dl, rfl⟩
    have tr := (ht t List.mem_cons_self).rows
    have hd : done.length ≤ 10 := by
      have := congrArg List.length dc
      rw [List.length_append] at this
      omega
    have g2 : gIx (lotD t.2) (.int 2) = some (.tuple (t.2.rows.map rd)) := rfl
    have e1 : mComp ((m2 gIx (mSlot 10) ((M.ret (.int 2)).bind fun d => M.ret (.dat d))).bind seqItems) (tName 15) (M.ret true) (m_law_k14_e1) [15] [o0, o1, o2, o3, o4, o5, some (.sh (.tuple (c.map cd))), o7, some (.ol ((pairsOf done).map pd)), some (.sh (.str t.1)), some (.sh (lotD t.2)), o11, o12, o13, o14, o15] =
        .ok (.ol (t.2.rows.map fun r => pd r.p)) [o0, o1, o2, o3, o4, o5, some (.sh (.tuple (c.map cd))), o7, some (.ol ((pairsOf done).map pd)), some (.sh (.str t.1)), some (.sh (lotD t.2)), o11, o12, o13, o14, o15] := by
      refine comp_pure (f := rd) (fun r => pd r.p) (by simp! only [g2]) (by omega) fun r _ => ⟨[o0, o1, o2, o3, o4, o5, some (.sh (.tuple (c.map cd))), o7, some (.ol ((pairsOf done).map pd)), some (.sh (.str t.1)), some (.sh (lotD t.2)), o11, o12, o13, o14, some (.sh (rd r))], [o0, o1, o2, o3, o4, o5, some (.sh (.tuple (c.map cd))), o7, some (.ol ((pairsOf done).map pd)), some (.sh (.str t.1)), some (.sh (lotD t.2)), o11, o12, o13, o14, some (.sh (rd r))], rfl, ?_, rfl⟩
      have g0 : gIx (rd r) (.int 0) = some (pd r.p) := rfl
      unfold m_law_k14_e1
      simp! only [g0]
    have ed : pairsOf (done ++ [t]) = pairsOf done ++ t.2.rows.map (·.p) := by unfold pairsOf rowsOf; rw [List.flatMap_append, List.map_append]; simp
    have ad : aAdd (.list ((pairsOf done).map pd)) (.list (t.2.rows.map fun r => pd r.p)) = some (.ol ((pairsOf (done ++ [t])).map pd)) := by
      show (if _ then _ else _) = _
      rw [if_pos (by rw [List.length_map, List.length_map]; omega), ed, List.map_append, List.map_map]
      rfl
    refine ⟨[o0, o1, o2, o3, o4, o5, some (.sh (.tuple (c.map cd))), o7, some (.ol ((pairsOf done).map pd)), some (.sh (.str t.1)), some (.sh (lotD t.2)), o11, o12, o13, o14, o15], [o0, o1, o2, o3, o4, o5, some (.sh (.tuple (c.map cd))), o7, some (.ol ((pairsOf (done ++ [t])).map pd)), some (.sh (.str t.1)), some (.sh (lotD t.2)), o11, o12, o13, o14, o15], rfl, .inl ?_, fun y hy => ht y (List.mem_cons_of_mem _ hy), done ++ [t], _, _, by rw [List.append_assoc]; exact dc, ?_, rfl⟩
    · unfold m_law_k14_b2
      simp! only [e1, ad]
    · rw [ed, List.length_append, List.length_append, List.length_map, List.length_singleton]; omega) c [o0, o1, o2, o3, o4, o5, some (.sh (.tuple (c.map cd))), o7, some (.ol []), o9, o10, o11, o12, o13, o14, o15]
    ⟨hr, [], o9, o10, rfl, Nat.le_refl _, rfl⟩
  rw [List.append_nil] at dc
  subst dc
  exact ⟨b9, b10, e⟩
theorem names_comp {p : Hand × Hand} {o8 : Option OD} {mt : M Bool} {me : M PyData} (hmt : mt = m_law_k14_t4) (hme : me = m_law_k14_e3) (hr : ∀ t ∈ c, TellF 15 t) (hl : c.length ≤ 10) :
    mComp ((mName 6).bind seqItems) (tTup [tName 9, tName 10]) mt me [9, 10] [o0, o1, o2, o3, o4, o5, some (.sh (.tuple (c.map cd))), o7, o8, o9, o10, some (.sh (pd p)), o12, o13, o14, o15] =
      .ok (.ol ((minesOf c p).map .str)) [o0, o1, o2, o3, o4, o5, some (.sh (.tuple (c.map cd))), o7, o8, o9, o10, some (.sh (pd p)), o12, o13, o14, o15] := by
  subst hmt hme
  have z := sizeLine_eq
  have em : (c.filter fun t => mine (ownRow t.2 t.1 p) t.1).map (fun t => PyData.str t.1) = (minesOf c p).map .str := by unfold minesOf; rw [List.map_map]; rfl
  rw [← em]
  refine comp_filt (f := cd) (fun t => mine (ownRow t.2 t.1 p) t.1) (fun t => .str t.1) (by simp! only []) (by omega) fun t ht => ⟨[o0, o1, o2, o3, o4, o5, some (.sh (.tuple (c.map cd))), o7, o8, some (.sh (.str t.1)), some (.sh (lotD t.2)), some (.sh (pd p)), o12, o13, o14, o15], [o0, o1, o2, o3, o4, o5, some (.sh (.tuple (c.map cd))), o7, o8, some (.sh (.str t.1)), some (.sh (lotD t.2)), some (.sh (pd p)), o12, o13, o14, o15], rfl, ?_, rfl, fun _ => ⟨[o0, o1, o2, o3, o4, o5, some (.sh (.tuple (c.map cd))), o7, o8, some (.sh (.str t.1)), some (.sh (lotD t.2)), some (.sh (pd p)), o12, o13, o14, o15], ?_, rfl⟩⟩
  · have e1 := has_ok t.2 t.1 p (Nat.le_trans (hr t ht).rows (by decide))
    unfold m_law_k14_t4
    simp! only [e1]
  · unfold m_law_k14_e3
    simp! only []
theorem look_ok {p : Hand × Hand} {o8 : Option OD} (hr : ∀ t ∈ c, TellF 15 t) (hl : c.length ≤ 10) :
    m_law_k14_b5 [o0, o1, o2, o3, o4, o5, some (.sh (.tuple (c.map cd))), o7, o8, o9, o10, some (.sh (pd p)), o12, o13, o14, o15] =
      .ok .nx [o0, o1, o2, o3, o4, o5, some (.sh (.tuple (c.map cd))), o7, o8, o9, o10, some (.sh (pd p)), some (.sh (.tuple ((minesOf c p).map .str))), o13, o14, o15] := by
  have e1 := names_comp (c := c) (o0 := o0) (o1 := o1) (o2 := o2) (o3 := o3) (o4 := o4) (o5 := o5) (o7 := o7) (o8 := o8) (o9 := o9) (o10 := o10) (o12 := o12) (o13 := o13) (o14 := o14) (o15 := o15) (p := p) rfl rfl hr hl
  have e2 := mine_at_ok (c := c) (p := p) (.inl rfl) (by omega)
  have rp := (names_sh (l := minesOf c p) (fun x hx => by obtain ⟨t, ht, rfl⟩ := mines_mem hx; exact (hr t ht).name) (Nat.le_trans (mines_len _ _) hl)).repr (by decide) (by decide)
  have gt : ∀ ds : List PyData, gTuple [.list ds] = some (.sh (.tuple ds)) := fun _ => rfl
  unfold m_law_k14_b5
  simp! only [e1, e2, gt, rp]
theorem mul0 (d : PyData) : aMulT (.list [d]) (.int 0) = some (.ol []) := by
  have h : -(2 ^ 63) ≤ (0 : Int) ∧ (0 : Int) < 2 ^ 63 ∧ [d].length * (0 : Int).toNat ≤ sizeLine := ⟨by decide, by decide, Nat.zero_le _⟩
  exact (if_pos h : (if -(2 ^ 63) ≤ (0 : Int) ∧ (0 : Int) < 2 ^ 63 ∧ [d].length * (0 : Int).toNat ≤ sizeLine then some (OD.ol (List.replicate (0 : Int).toNat [d]).flatten) else none) = _)
theorem mul1 (d : PyData) : aMulT (.list [d]) (.int 1) = some (.ol [d]) := by
  have h : -(2 ^ 63) ≤ (1 : Int) ∧ (1 : Int) < 2 ^ 63 ∧ [d].length * (1 : Int).toNat ≤ sizeLine := ⟨by decide, by decide, by rw [sizeLine_eq]; show 1 ≤ 16777216; decide⟩
  exact (if_pos h : (if -(2 ^ 63) ≤ (1 : Int) ∧ (1 : Int) < 2 ^ 63 ∧ [d].length * (1 : Int).toNat ≤ sizeLine then some (OD.ol (List.replicate (1 : Int).toNat [d]).flatten) else none) = _)
theorem turn_ok {p : Hand × Hand} {sp : List (Hand × Hand)} {o8 : Option OD} (hr : ∀ t ∈ c, TellF 15 t) (hl : c.length ≤ 10) (hs : sp.length ≤ 1000) :
    ∃ b14, m_law_k14_b10 [o0, o1, o2, o3, o4, o5, some (.sh (.tuple (c.map cd))), o7, o8, o9, o10, some (.sh (pd p)), some (.ol ((heldsOf c ws sp).map heldD)), some (.sh (.tuple (ws.map .str))), o14, o15] =
      .ok .nx [o0, o1, o2, o3, o4, o5, some (.sh (.tuple (c.map cd))), o7, o8, o9, o10, some (.sh (pd p)), some (.ol ((heldsOf c ws (sp ++ [p])).map heldD)), some (.sh (.tuple (ws.map .str))), b14, o15] := by
  have z := sizeLine_eq
  have e1 := names_comp (c := c) (o0 := o0) (o1 := o1) (o2 := o2) (o3 := o3) (o4 := o4) (o5 := o5) (o7 := o7) (o8 := o8) (o9 := o9) (o10 := o10) (o12 := some (.ol ((heldsOf c ws sp).map heldD))) (o13 := some (.sh (.tuple (ws.map .str)))) (o14 := o14) (o15 := o15) (p := p) (mt := m_law_k14_t7) (me := m_law_k14_e6) rfl rfl hr hl
  have ml := mines_len c p
  have e2 : mComp ((mName 14).bind seqItems) (tName 9) (m_law_k14_t9) (m_law_k14_e8) [9] [o0, o1, o2, o3, o4, o5, some (.sh (.tuple (c.map cd))), o7, o8, o9, o10, some (.sh (pd p)), some (.ol ((heldsOf c ws sp).map heldD)), some (.sh (.tuple (ws.map .str))), some (.ol ((minesOf c p).map .str)), o15] =
      .ok (.ol ((minesOf (awake c ws) p).map .str)) [o0, o1, o2, o3, o4, o5, some (.sh (.tuple (c.map cd))), o7, o8, o9, o10, some (.sh (pd p)), some (.ol ((heldsOf c ws sp).map heldD)), some (.sh (.tuple (ws.map .str))), some (.sh (.list ((minesOf c p).map .str))), o15] := by
    rw [← mines_awake]
    refine comp_filt (f := PyData.str) (fun x => !decide (x ∈ ws)) PyData.str (by simp! only []) (by omega) fun x _ => ⟨[o0, o1, o2, o3, o4, o5, some (.sh (.tuple (c.map cd))), o7, o8, some (.sh (.str x)), o10, some (.sh (pd p)), some (.ol ((heldsOf c ws sp).map heldD)), some (.sh (.tuple (ws.map .str))), some (.sh (.list ((minesOf c p).map .str))), o15], [o0, o1, o2, o3, o4, o5, some (.sh (.tuple (c.map cd))), o7, o8, some (.sh (.str x)), o10, some (.sh (pd p)), some (.ol ((heldsOf c ws sp).map heldD)), some (.sh (.tuple (ws.map .str))), some (.sh (.list ((minesOf c p).map .str))), o15], rfl, ?_, rfl, fun _ => ⟨[o0, o1, o2, o3, o4, o5, some (.sh (.tuple (c.map cd))), o7, o8, some (.sh (.str x)), o10, some (.sh (pd p)), some (.ol ((heldsOf c ws sp).map heldD)), some (.sh (.tuple (ws.map .str))), some (.sh (.list ((minesOf c p).map .str))), o15], ?_, rfl⟩⟩
    · unfold m_law_k14_t9
      simp! only [notIn_str]
    · unfold m_law_k14_e8
      simp! only []
  have hh : (heldsOf c ws sp).length ≤ 1000 := by
    refine Nat.le_trans (List.length_filter_le _ _) ?_
    rw [List.length_map]
    exact hs
  have gt : ∀ ds : List PyData, gTuple [.list ds] = some (.sh (.tuple ds)) := fun _ => rfl
  have lg1 : ∀ a : PyData, lstG [a] = some (.ol [a]) := fun a => if_pos (show 1 ≤ sizeLine by decide)
  have i0 : gInt [.bool false] = some (.sh (.int 0)) := rfl
  have i1 : gInt [.bool true] = some (.sh (.int 1)) := rfl
  have ad : ∀ qs : List Held, qs.length ≤ 1 → aAdd (.list ((heldsOf c ws sp).map heldD)) (.list (qs.map heldD)) = some (.ol ((heldsOf c ws sp ++ qs).map heldD)) := fun qs hq => by
    show (if _ then _ else _) = _
    rw [if_pos (by rw [List.length_map, List.length_map]; omega), List.map_append]
  rw [held_snoc]
  refine ⟨some (.ol ((minesOf (awake c ws) p).map .str)), ?_⟩
  unfold m_law_k14_b10
  by_cases h : 1 < ((minesOf (awake c ws) p).length : Int)
  · rw [if_pos h]
    have a1 := ad [(p, minesOf (awake c ws) p)] (Nat.le_refl _)
    have e5 : [(p, minesOf (awake c ws) p)].map heldD = [.tuple [pd p, .tuple ((minesOf (awake c ws) p).map .str)]] := rfl
    rw [e5] at a1
    simp! only [e1, e2, gt, lg1, List.length_map, h, i1, mul1, a1]
  · rw [if_neg h]
    have a1 := ad [] (Nat.zero_le _)
    have e5 : ([] : List Held).map heldD = [] := rfl
    rw [e5] at a1
    simp! only [e1, e2, gt, lg1, List.length_map, h, i0, mul0, a1]
end
end Lw
namespace Lw
open PySem L2 PySem.W PySem.SeqAt Eg
theorem cut_map {α : Type} (f : α → PyData) (l : List α) (a b : Option Int) : ∃ m : List α, cutD (l.map f) a b = m.map f ∧ m.length ≤ l.length ∧ ∀ x ∈ m, x ∈ l := by
  refine ⟨(l.drop (HT.sIx (l.map f).length 0 a)).take (HT.sIx (l.map f).length (l.map f).length b - HT.sIx (l.map f).length 0 a), ?_, ?_, fun x hx => List.mem_of_mem_drop (List.mem_of_mem_take hx)⟩
  · unfold cutD
    rw [List.map_take, List.map_drop]
  · rw [List.length_take, List.length_drop]
    omega
theorem cut_five (l : List PyData) : (cutD l none (some 5)).length ≤ 5 := by
  have e : HT.sIx l.length l.length (some 5) = min 5 l.length := by
    have := HT.sIx_nat l.length l.length 5
    simpa using this
  unfold cutD
  rw [e, List.length_take]
  omega
theorem rows_len {n : Nat} : ∀ {c : List Tell}, (∀ t ∈ c, TellF n t) → (rowsOf c).length ≤ n * c.length
  | [], _ => Nat.zero_le _
  | t :: c, h => by
    have := rows_len (c := c) fun u hu => h u (List.mem_cons_of_mem _ hu)
    have h2 := (h t List.mem_cons_self).rows
    unfold rowsOf at this ⊢
    rw [List.flatMap_cons, List.length_append, List.length_cons, Nat.mul_add]
    omega
theorem pairs_fine {n : Nat} {c : List Tell} (h : ∀ t ∈ c, TellF n t) : ∀ p ∈ pairsOf c, PairF p := by
  intro p hp
  obtain ⟨r, hr, rfl⟩ := List.mem_map.mp hp
  obtain ⟨t, ht, hr⟩ := List.mem_flatMap.mp hr
  exact ((h t ht).lot.rows r hr).p
section
variable {o0 o1 o2 o3 o4 o5 o7 o9 o10 o11 o12 o13 o14 o15 : Option OD} {c : List Tell} {ws : List Str}
theorem sleep_ok (hr : ∀ t ∈ c, TellF 15 t) (hl : c.length ≤ 4) :
    ∃ b11 b12 b14, m_law_k14_b11 [o0, o1, o2, o3, o4, o5, some (.sh (.tuple (c.map cd))), o7, some (.ol ((pairsOf c).map pd)), o9, o10, o11, o12, some (.sh (.tuple (ws.map .str))), o14, o15] =
      .ok .nx [o0, o1, o2, o3, o4, o5, some (.sh (.tuple (c.map cd))), o7, some (.ol ((pairsOf c).map pd)), o9, o10, b11, b12, some (.sh (.tuple (ws.map .str))), b14, o15] := by
  have rl := rows_len hr
  have pl : (pairsOf c).length = (rowsOf c).length := by unfold pairsOf; rw [List.length_map]
  obtain ⟨sp, es, em, el⟩ := told_pairs (pairsOf c)
  have gk : gKeys [.list ((pairsOf c).map pd)] = some ((pairsOf c).map pd) := by
    have h : ((pairsOf c).map pd).all keyT = true ∧ ((pairsOf c).map pd).length < 64 := ⟨List.all_eq_true.mpr fun d hd => by
      obtain ⟨p, _, rfl⟩ := List.mem_map.mp hd
      exact key_pd p, by rw [List.length_map]; omega⟩
    show (if _ then _ else _) = _
    rw [if_pos h]
  have go := gOnce_pd (l := pairsOf c) (by omega)
  rw [es] at go
  have l0 : lstG [] = some (.ol []) := if_pos (Nat.zero_le _)
  obtain ⟨ρ', e, ⟨done, b11, b14, dc, rfl⟩⟩ := loop_inv (f := pd) (t := tName 11) (b := m_law_k14_b10) (fun rest ρ => ∃ (done : List (Hand × Hand)) (b11 b14 : Option OD), done ++ rest = sp ∧ ρ = [o0, o1, o2, o3, o4, o5, some (.sh (.tuple (c.map cd))), o7, some (.ol ((pairsOf c).map pd)), o9, o10, b11, some (.ol ((heldsOf c ws done).map heldD)), some (.sh (.tuple (ws.map .str))), b14, o15]) (by
    rintro p rest ρ ⟨done, b11, b14, dc, rfl⟩
    have dl : done.length ≤ 1000 := by
      have := congrArg List.length dc
      rw [List.length_append] at this
      omega
    obtain ⟨b14', e⟩ := turn_ok (c := c) (ws := ws) (o0 := o0) (o1 := o1) (o2 := o2) (o3 := o3) (o4 := o4) (o5 := o5) (o7 := o7) (o9 := o9) (o10 := o10) (o14 := b14) (o15 := o15) (p := p) (sp := done) (o8 := some (.ol ((pairsOf c).map pd))) hr (by omega) dl
    exact ⟨_, _, rfl, .inl e, done ++ [p], _, _, by rw [List.append_assoc]; exact dc, rfl⟩) sp [o0, o1, o2, o3, o4, o5, some (.sh (.tuple (c.map cd))), o7, some (.ol ((pairsOf c).map pd)), o9, o10, o11, some (.ol []), some (.sh (.tuple (ws.map .str))), o14, o15]
    ⟨[], o11, o14, rfl, rfl⟩
  rw [List.append_nil] at dc
  subst dc
  have e2 := held_ok (c := c) (ws := ws) (by omega) (by omega) es (by omega)
  have rp := held_sh (ws := ws) hr (by omega) (fun p hp => pairs_fine hr p (em p hp)) (show done.length ≤ 1000 by omega)
  have gt : ∀ ds : List PyData, gTuple [.list ds] = some (.sh (.tuple ds)) := fun _ => rfl
  refine ⟨b11, some (.ol ((heldsOf c ws done).map heldD)), b14, ?_⟩
  unfold m_law_k14_b11
  simp! only [l0, v_sset, gk, go]
  rw [e]
  simp! only [e2, rp, gt]
theorem some_ok {ts : List Str} {ps : List (Hand × Hand)} {o6 o8 : Option OD} (ht : ts.length ≤ 10) (hr : ∀ t ∈ c, TellF 15 t) (hl : c.length ≤ 4) :
    ∃ b7 b8 b9 b10 b11 b12 b13 b14, m_law_k14_b12 [o0, o1, o2, some (.sh (.list (ts.map .str))), some (.sh (.list (ps.map pd))), o5, some (.sh (.tuple (c.map cd))), o7, o8, o9, o10, o11, o12, o13, o14, o15] =
      .ok .nx [o0, o1, o2, some (.sh (.list (ts.map .str))), some (.sh (.list (ps.map pd))), o5, some (.sh (.tuple (c.map cd))), b7, b8, b9, b10, b11, b12, b13, b14, o15] := by
  have z := sizeLine_eq
  have l0 : lstG [] = some (.ol []) := if_pos (Nat.zero_le _)
  have t0 : tupG [] = some (.tuple []) := if_pos (Nat.zero_le _)
  have lg1 : ∀ a : PyData, lstG [a] = some (.ol [a]) := fun a => if_pos (show 1 ≤ sizeLine by decide)
  have t1 : ∀ a : PyData, tupG [a] = some (.tuple [a]) := fun a => if_pos (show 1 ≤ sizeLine by decide)
  have gt : ∀ ds : List PyData, gTuple [.list ds] = some (.sh (.tuple ds)) := fun _ => rfl
  have rp := tells_repr hr (by omega)
  obtain ⟨b9, b10, e1⟩ := seen_ok (c := c) (o0 := o0) (o1 := o1) (o2 := o2) (o3 := some (.sh (.list (ts.map .str)))) (o4 := some (.sh (.list (ps.map pd)))) (o5 := o5) (o7 := some (.sh (.str (PyData.tuple (c.map cd)).shown))) (o9 := o9) (o10 := o10) (o11 := o11) (o12 := o12) (o13 := o13) (o14 := o14) (o15 := o15) hr (by omega)
  obtain ⟨ρ2, e2, ⟨b11, b12, rfl⟩⟩ := loop_inv (f := pd) (t := tName 11) (b := m_law_k14_b5) (fun rest ρ => ∃ b11 b12 : Option OD, ρ = [o0, o1, o2, some (.sh (.list (ts.map .str))), some (.sh (.list (ps.map pd))), o5, some (.sh (.tuple (c.map cd))), some (.sh (.str (PyData.tuple (c.map cd)).shown)), some (.ol ((pairsOf c).map pd)), b9, b10, b11, b12, o13, o14, o15]) (by
    rintro p rest ρ ⟨b11, b12, rfl⟩
    exact ⟨_, _, rfl, .inl (look_ok (p := p) (o8 := some (.ol ((pairsOf c).map pd))) hr (by omega)), _, _, rfl⟩) ps [o0, o1, o2, some (.sh (.list (ts.map .str))), some (.sh (.list (ps.map pd))), o5, some (.sh (.tuple (c.map cd))), some (.sh (.str (PyData.tuple (c.map cd)).shown)), some (.ol ((pairsOf c).map pd)), b9, b10, o11, o12, o13, o14, o15]
    ⟨o11, o12, rfl⟩
  obtain ⟨w1, c1, _, _⟩ := cut_map PyData.str ts none (some 1)
  obtain ⟨w4, c4, l4, _⟩ := cut_map PyData.str ts (some 1) none
  have s1 : gSl (.list (ts.map .str)) none (some 1) = some (.ol (w1.map .str)) := by rw [← c1]; rfl
  have s4 : gSl (.list (ts.map .str)) (some 1) none = some (.ol (w4.map .str)) := by rw [← c4]; rfl
  let q1 : List Str := ["q"]
  have a4 : aAdd (.list (w4.map .str)) (.list [.str "q"]) = some (.ol ((w4 ++ q1).map .str)) := by
    have : (w4.map PyData.str).length + [PyData.str "q"].length ≤ sizeLine := by rw [List.length_map, List.length_singleton]; omega
    simp only [aAdd]
    rw [if_pos this, List.map_append]
    rfl
  obtain ⟨ρ3, e3, ⟨b11', b12', b13', b14', rfl⟩⟩ := loop_inv (f := fun ws : List Str => PyData.tuple (ws.map .str)) (t := tName 13) (b := m_law_k14_b11) (fun rest ρ => ∃ b11 b12 b13 b14 : Option OD, ρ = [o0, o1, o2, some (.sh (.list (ts.map .str))), some (.sh (.list (ps.map pd))), o5, some (.sh (.tuple (c.map cd))), some (.sh (.str (PyData.tuple (c.map cd)).shown)), some (.ol ((pairsOf c).map pd)), b9, b10, b11, b12, b13, b14, o15]) (by
    rintro ws rest ρ ⟨b11, b12, b13, b14, rfl⟩
    obtain ⟨x11, x12, x14, e⟩ := sleep_ok (c := c) (ws := ws) (o0 := o0) (o1 := o1) (o2 := o2) (o3 := some (.sh (.list (ts.map .str)))) (o4 := some (.sh (.list (ps.map pd)))) (o5 := o5) (o7 := some (.sh (.str (PyData.tuple (c.map cd)).shown))) (o9 := b9) (o10 := b10) (o11 := b11) (o12 := b12) (o14 := b14) (o15 := o15) hr hl
    exact ⟨_, _, rfl, .inl e, _, _, _, _, rfl⟩) [[], w1, ts, q1, w4 ++ q1] [o0, o1, o2, some (.sh (.list (ts.map .str))), some (.sh (.list (ps.map pd))), o5, some (.sh (.tuple (c.map cd))), some (.sh (.str (PyData.tuple (c.map cd)).shown)), some (.ol ((pairsOf c).map pd)), b9, b10, b11, b12, o13, o14, o15]
    ⟨b11, b12, o13, o14, rfl⟩
  have e3' : sLoop (tName 13) m_law_k14_b11 [.tuple [], .tuple (w1.map .str), .tuple (ts.map .str), .tuple [.str "q"], .tuple ((w4 ++ q1).map .str)] [o0, o1, o2, some (.sh (.list (ts.map .str))), some (.sh (.list (ps.map pd))), o5, some (.sh (.tuple (c.map cd))), some (.sh (.str (PyData.tuple (c.map cd)).shown)), some (.ol ((pairsOf c).map pd)), b9, b10, b11, b12, o13, o14, o15] = .ok .nx [o0, o1, o2, some (.sh (.list (ts.map .str))), some (.sh (.list (ps.map pd))), o5, some (.sh (.tuple (c.map cd))), some (.sh (.str (PyData.tuple (c.map cd)).shown)), some (.ol ((pairsOf c).map pd)), b9, b10, b11', b12', b13', b14', o15] := e3
  generalize (w4 ++ q1).map PyData.str = W4 at a4 e3'
  have rl := rows_len hr
  have pl : (pairsOf c).length = (rowsOf c).length := by unfold pairsOf; rw [List.length_map]
  obtain ⟨sp, es, em, el⟩ := told_pairs (pairsOf c)
  have e4 := held_ok (c := c) (ws := []) (by omega) (by omega) es (by omega)
  rw [List.map_nil] at e4
  have rp2 := held_sh (ws := []) hr (by omega) (fun p hp => pairs_fine hr p (em p hp)) (show sp.length ≤ 1000 by omega)
  refine ⟨some (.sh (.str (PyData.tuple (c.map cd)).shown)), some (.ol ((pairsOf c).map pd)), b9, b10, b11', b12', b13', b14', ?_⟩
  unfold m_law_k14_b12
  simp! only [rp, l0]
  rw [e1]
  simp! only []
  rw [e2]
  simp! only [t0, s1, gt, t1, s4, lg1, a4]
  rw [e3']
  simp! only [v_pick, v_pk0, v_pkl, v_pkr, List.getD_cons_zero, e4, rp2, t0, rp]
theorem turn14 {kvs : List (Key × PyData)} {k : Nat} {i : Int} {o4 o6 o7 o8 : Option OD} (ht : TapAt kvs k) (hk : k < 60000) (hi : 0 ≤ i) :
    ∃ kvs' r, TapAt kvs' (k + 18000) ∧ r.length = 12 ∧ m_law_k14_b13 [o0, some (.od kvs), some (.sh (.int i)), o3, o4, o5, o6, o7, o8, o9, o10, o11, o12, o13, o14, o15] = .ok .nx (o0 :: some (.od kvs') :: some (.sh (.int i)) :: (r ++ [o15])) := by
  have z := sizeLine_eq
  have m0 : gMod (.int i) (.int 2) = some (.int (i % 2)) := gMod_int (by decide)
  have a12 : aAdd (.int 1) (.int (i % 2)) = some (.sh (.int (1 + i % 2))) := rfl
  obtain ⟨ts, kvs1, hs, hlen, l1, t1, e1⟩ := towns_ok4 (least := 1 + i % 2) ht (by omega) (by omega)
  have l1 := l1 (by omega)
  obtain ⟨P, R, kvs2, p, pl, t2, e2⟩ := seats_ok (many := 4) t1 (by omega) (show ts.length ≤ 5 by omega) (by decide)
  obtain ⟨nd, fi⟩ := hands3 hs p
  have pl4 : P.length ≤ 4 := pl
  have hl : (P ++ [far]).length ≤ 20 := by rw [List.length_append, List.length_singleton]; omega
  have tk := twos_ok hl nd
  have rl := rise_len (sortH (P ++ [far]))
  rw [sortH_len, List.length_append, List.length_singleton] at rl
  have ps_len : (rise (sortH (P ++ [far]))).length ≤ 10 := by
    have : P.length = 0 ∨ P.length = 1 ∨ P.length = 2 ∨ P.length = 3 ∨ P.length = 4 := by omega
    rcases this with q | q | q | q | q <;> rw [q] at rl <;> omega
  have pf := rise_fine3 fi
  have tf : ∀ x ∈ ts, StrF x := fun x hx => five_fine x (hs.mem hx)
  generalize hW : rise (sortH (P ++ [far])) = W at tk ps_len pf
  have t1' : ∀ a : PyData, tupG [a] = some (.tuple [a]) := fun a => if_pos (show 1 ≤ sizeLine by decide)
  have lg1 : ∀ a : PyData, lstG [a] = some (.ol [a]) := fun a => if_pos (show 1 ≤ sizeLine by decide)
  have adP : aAdd (.list (P.map hd)) (.list [.tuple [.str "far", .str "a"]]) = some (.ol ((P ++ [far]).map hd)) := by
    have : (P.map hd).length + [PyData.tuple [.str "far", .str "a"]].length ≤ sizeLine := by rw [List.length_map, List.length_singleton]; omega
    simp only [aAdd]
    rw [if_pos this, List.map_append]
    rfl
  obtain ⟨C, kvs3, cl, cf, t3, e3⟩ := cast_ok t2 (by omega) (by omega) pf (by omega) tf
  obtain ⟨W5, c5, _, w5⟩ := cut_map pd W none (some 5)
  have l5 := cut_five (W.map pd)
  rw [c5, List.length_map] at l5
  have s5 : gSl (.list (W.map pd)) none (some 5) = some (.ol (W5.map pd)) := by rw [← c5]; rfl
  obtain ⟨N, kvs4, nl, nf, t4, e4⟩ := near_ok t3 (by omega) (by omega) (fun q hq => pf q (w5 q hq)) l5 cf (by omega)
  have cf' : ∀ t ∈ C, TellF 15 t := fun t ht => (cf t ht).mono (by omega)
  have nf' : ∀ t ∈ N, TellF 15 t := fun t ht => (nf t ht).mono (by omega)
  obtain ⟨x7, x8, x9, x10, x11, x12, x13, x14, e5⟩ := some_ok (o0 := o0) (o1 := some (.od kvs4)) (o2 := some (.sh (.int i))) (o5 := some (.sh (.tuple (C.map cd)))) (o6 := none) (o7 := o7) (o8 := o8) (o9 := o9) (o10 := o10) (o11 := o11) (o12 := o12) (o13 := o13) (o14 := o14) (o15 := o15) (ts := ts) (ps := W) (c := C) (by omega) cf' (by omega)
  obtain ⟨y7, y8, y9, y10, y11, y12, y13, y14, e6⟩ := some_ok (o0 := o0) (o1 := some (.od kvs4)) (o2 := some (.sh (.int i))) (o5 := some (.sh (.tuple (C.map cd)))) (o6 := none) (o7 := x7) (o8 := x8) (o9 := x9) (o10 := x10) (o11 := x11) (o12 := x12) (o13 := x13) (o14 := x14) (o15 := o15) (ts := ts) (ps := W) (c := N) (by omega) nf' (by omega)
  refine ⟨kvs4, [some (.sh (.list (ts.map .str))), some (.sh (.list (W.map pd))), some (.sh (.tuple (C.map cd))), some (.sh (.tuple (N.map cd))), y7, y8, y9, y10, y11, y12, y13, y14], t4.mono (by omega), rfl, ?_⟩
  unfold m_law_k14_b13
  simp! only [m0, a12, e1, e2, tg2, lg1, adP, tk, e3, s5, e4, v_lp1, v_lp0, e5, e6]
theorem law_k14_true (ns : List Int) (h : ns.length ≤ 63) : ∃ ρ, fnM 15 [false] m_law_k14 [some (.sc ns)] = .ok (.sh (.bool true)) ρ := by
  obtain ⟨kvs, t0, e0⟩ := tap_new ns
  obtain ⟨ρ', e, ⟨_, _, kvs', o2, r, hr, _, rfl⟩⟩ := loop_inv (f := PyData.int) (t := tName 2) (b := m_law_k14_b13) (fun rest ρ => (∀ x ∈ rest, (0 : Int) ≤ x) ∧ rest.length ≤ 4 ∧ ∃ (kvs' : List (Key × PyData)) (o2 : Option OD) (r : Rho), r.length = 12 ∧ TapAt kvs' (72000 - 18000 * rest.length) ∧ ρ = some (.sc ns) :: some (.od kvs') :: o2 :: (r ++ [none])) (by
    rintro x rest ρ ⟨hx, hl, kvs', o2, r, hr, ht, rfl⟩
    rw [List.length_cons] at hl ht
    match r, hr with
    | [a3, a4, a5, a6, a7, a8, a9, a10, a11, a12, a13, a14], _ =>
      obtain ⟨kvs2, r2, t2, hr2, e2⟩ := turn14 (o0 := some (.sc ns)) (o15 := none) (o3 := a3) (o4 := a4) (o5 := a5) (o6 := a6) (o7 := a7) (o8 := a8) (o9 := a9) (o10 := a10) (o11 := a11) (o12 := a12) (o13 := a13) (o14 := a14) ht (by omega) (hx x List.mem_cons_self)
      exact ⟨_, _, rfl, .inl e2, fun y hy => hx y (List.mem_cons_of_mem _ hy), by omega, kvs2, _, r2, hr2, t2.mono (by omega), rfl⟩) [0, 1, 2, 3] [some (.sc ns), some (.od kvs), none, none, none, none, none, none, none, none, none, none, none, none, none, none]
    ⟨by decide, by decide, kvs, none, [none, none, none, none, none, none, none, none, none, none, none, none], rfl, t0.mono (Nat.zero_le _), rfl⟩
  have rg : rng1 [.int 4] = some ([(0 : Int), 1, 2, 3].map .int) := rfl
  match r, hr with
  | [a3, a4, a5, a6, a7, a8, a9, a10, a11, a12, a13, a14], _ =>
    refine ⟨[none], ?_⟩
    unfold m_law_k14
    simp! only [e0, rg]
    simp only [List.map_cons, List.map_nil] at e
    rw [e]
    simp! only [List.cons_append, List.nil_append]
end
end Lw
open PySem PySem.W PyProof.Rows in
set_option maxRecDepth 100000 in
set_option maxHeartbeats 0 in
theorem PySem.Challenge.cw_strangerbench_k14_looks_over_towns_holds : PySem.Challenge.rw_strangerbench_k14_looks_over_towns.Holds := by
  w_on; o_law; k_head; (case hw => w_witness2)
  k_fill
  refine Eg.law_walk (l := PySem.Challenge.rw_strangerbench_k14_looks_over_towns) (n := 63) (k := 6) (m := 15) (x := "script") (body := Lw.m_law_k14) (XR := fun _ _ _ _ _ => False) rfl (by decide) rfl ⟨rfl, by decide, by decide⟩ (fun w h Y => PySem.W.kIn_of Y) ?F Lw.law_k14_true
  case F =>
    intro w mg fa h KX G hmg
    refine' Dv.all_in KX G hmg ?a_s0 ?l_s0 ?c_s0 ?k_s0 ?a_s1 ?l_s1 ?c_s1 ?k_s1 ?a_s2 ?l_s2 ?c_s2 ?k_s2 ?a_s3 ?l_s3 ?c_s3 ?k_s3 ?a_s4 ?l_s4 ?c_s4 ?k_s4 ?a_s5 ?l_s5 ?c_s5 ?k_s5 ?a_s6 ?l_s6 ?c_s6 ?k_s6 ?e_T_held_twice_wary ?w_T_held_twice_wary ?a_s7 ?l_s7 ?c_s7 ?k_s7 ?a_s8 ?l_s8 ?c_s8 ?k_s8 ?a_s9 ?l_s9 ?c_s9 ?k_s9 ?a_s10 ?l_s10 ?c_s10 ?k_s10 ?a_s11 ?l_s11 ?c_s11 ?k_s11 ?a_s12 ?l_s12 ?c_s12 ?k_s12 ?a_s13 ?l_s13 ?c_s13 ?k_s13 ?a_s14 ?l_s14 ?c_s14 ?k_s14 ?a_s15 ?l_s15 ?c_s15 ?k_s15 ?a_s16 ?l_s16 ?c_s16 ?k_s16 ?a_s17 ?l_s17 ?c_s17 ?k_s17 ?a_s18 ?l_s18 ?c_s18 ?k_s18 ?a_s19 ?l_s19 ?c_s19 ?k_s19 ?z_int ?z_len ?z_list ?z_max ?z_min ?z_range ?z_repr ?z_set ?z_sorted ?z_tuple
    case a_s0 => k_is
    case l_s0 => k_is
    case c_s0 => k_is
    case k_s0 => k_is
    case a_s1 => k_is
    case l_s1 => k_is
    case c_s1 => k_is
    case k_s1 => k_is
    case a_s2 => k_is
    case l_s2 => k_is
    case c_s2 => k_is
    case k_s2 => k_is
    case a_s3 => k_is
    case l_s3 => k_is
    case c_s3 => k_is
    case k_s3 => k_is
    case a_s4 => k_is
    case l_s4 => k_is
    case c_s4 => k_is
    case k_s4 => k_is
    case a_s5 => k_is
    case l_s5 => k_is
    case c_s5 => k_is
    case k_s5 => k_is
    case a_s6 => k_is
    case l_s6 => k_is
    case c_s6 => k_is
    case k_s6 => k_is
    case e_T_held_twice_wary => k_is
    case w_T_held_twice_wary => k_is
    case a_s7 => k_is
    case l_s7 => k_is
    case c_s7 => k_is
    case k_s7 => k_is
    case a_s8 => k_is
    case l_s8 => k_is
    case c_s8 => k_is
    case k_s8 => k_is
    case a_s9 => k_is
    case l_s9 => k_is
    case c_s9 => k_is
    case k_s9 => k_is
    case a_s10 => k_is
    case l_s10 => k_is
    case c_s10 => k_is
    case k_s10 => k_is
    case a_s11 => k_is
    case l_s11 => k_is
    case c_s11 => k_is
    case k_s11 => k_is
    case a_s12 => k_is
    case l_s12 => k_is
    case c_s12 => k_is
    case k_s12 => k_is
    case a_s13 => k_is
    case l_s13 => k_is
    case c_s13 => k_is
    case k_s13 => k_is
    case a_s14 => k_is
    case l_s14 => k_is
    case c_s14 => k_is
    case k_s14 => k_is
    case a_s15 => k_is
    case l_s15 => k_is
    case c_s15 => k_is
    case k_s15 => k_is
    case a_s16 => k_is
    case l_s16 => k_is
    case c_s16 => k_is
    case k_s16 => k_is
    case a_s17 => k_is
    case l_s17 => k_is
    case c_s17 => k_is
    case k_s17 => k_is
    case a_s18 => k_is
    case l_s18 => k_is
    case c_s18 => k_is
    case k_s18 => k_is
    case a_s19 => k_is
    case l_s19 => k_is
    case c_s19 => k_is
    case k_s19 => k_is
    case z_int => k_is
    case z_len => k_is
    case z_list => k_is
    case z_max => k_is
    case z_min => k_is
    case z_range => k_is
    case z_repr => k_is
    case z_set => k_is
    case z_sorted => k_is
    case z_tuple => k_is

