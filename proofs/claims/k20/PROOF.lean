import PyProof.Rows.All
import Wide.All
import OpenK.AllK
import Wide.FinOn
import HandS.Text
import PyProof.Rows.IntBool
import PyProof.CallStr
import HandS.TupMul
import HandS.IsInst
import HandS.Gcd
import HandS.Struct
import HandS.Wide
import HandS.TryOnly
import HandS.More
import HandS.Zip
import HandS.Style
import HandS.TupLe
import HandS.ForMost
import HandS.ForExc
import HandS.TryMany
import KE.SortData
import KE.DataMinMax
import HandS.Lambda
import KE.KDictKeyed
import HandS.TupAny
import KE.DataEq
import KE.DataCmp
import PyProof.FitsInt
import HandS.DictComp
import KE.KDictList
import HandS.Conv
import HandS.Set
import HandS.TupLen
import HandS.TupSets
import KE.KDictPairs
import HandS.Defaults
import PyProof.StrOps
import PyProof.StrLawsIn
import HandS.ExcInit
import HandS.WordsExc
import KE.KExcInit
import HandS.ExcField
import HandS.EndTab
import HandS.HeadHook4
import KE.KNestM
import KE.GoesEnum
import KE.GoesMore
import HandS.BoundDict
import PyProof.DictMoreH
import KE.KTryMore
import KE.KExcIs
import KE.KIsAll
import KE.DataFind
import KE.DatumIndex
import Open.Row
import KE.KIntText
import PyProof.Rows.ReprOcc
import PySem.Challenge.RW_strangerbench_k20_paths_told
set_option Elab.async false
set_option linter.all false
set_option maxRecDepth 100000
set_option maxHeartbeats 4000000
namespace Eg
open PySem L2 PySem.W PySem.SeqAt PySem.Spec PyProof.Rows
mutual
def nk : PyData → NestedKey
  | .none => .none
  | .bool b => .num (if b = true then 1 else 0)
  | .int i => .num i
  | .str x => .text x
  | .tuple ds => .tup (nks ds)
  | .list _ => .none
  | .dict _ => .none
def nks : List PyData → List NestedKey
  | [] => []
  | d :: ds => nk d :: nks ds
end
mutual
def keyB : PyData → Bool
  | .none => true
  | .int _ => true
  | .str _ => true
  | .tuple ds => keyBs ds
  | .bool _ => false
  | .list _ => false
  | .dict _ => false
def keyBs : List PyData → Bool
  | [] => true
  | d :: ds => keyB d && keyBs ds
end
mutual
theorem nk_inj : ∀ d e : PyData, keyB d = true → keyB e = true → nk d = nk e → d = e
  | .none, e, _, he, h => by cases e <;> simp [nk, keyB] at he h ⊢
  | .int i, e, _, he, h => by cases e <;> simp [nk, keyB] at he h ⊢; exact h
  | .str x, e, _, he, h => by cases e <;> simp [nk, keyB] at he h ⊢; exact h
  | .tuple ds, e, hd, he, h => by
    cases e <;> simp [nk, keyB] at hd he h ⊢
    exact nks_inj ds _ hd he h
  | .bool b, _, hd, _, _ => by simp [keyB] at hd
  | .list ds, _, hd, _, _ => by simp [keyB] at hd
  | .dict ds, _, hd, _, _ => by simp [keyB] at hd
theorem nks_inj : ∀ ds es : List PyData, keyBs ds = true → keyBs es = true → nks ds = nks es → ds = es
  | [], es, _, _, h => by cases es <;> simp [nks] at h ⊢
  | d :: ds, es, hd, he, h => by
    cases es with
    | nil => simp [nks] at h
    | cons e es =>
      rw [keyBs, Bool.and_eq_true] at hd he
      rw [nks, nks] at h
      injection h with h1 h2
      rw [nk_inj d e hd.1 he.1 h1, nks_inj ds es hd.2 he.2 h2]
end
mutual
theorem nk_depth : ∀ d : PyData, keyB d = true → (nk d).depth ≤ d.depth
  | .none, _ => by rw [nk, NestedKey.depth]; exact Nat.zero_le _
  | .int i, _ => by rw [nk, NestedKey.depth]; exact Nat.zero_le _
  | .str x, _ => by rw [nk, NestedKey.depth]; exact Nat.zero_le _
  | .tuple ds, h => by
    rw [keyB] at h
    rw [nk, NestedKey.depth, PyData.depth]
    have := nks_depth ds h
    omega
  | .bool b, hd => by simp [keyB] at hd
  | .list ds, hd => by simp [keyB] at hd
  | .dict ds, hd => by simp [keyB] at hd
theorem nks_depth : ∀ ds : List PyData, keyBs ds = true → NestedKey.depthAll (nks ds) ≤ PyData.depthAll ds
  | [], _ => by rw [nks, NestedKey.depthAll]; exact Nat.zero_le _
  | d :: ds, h => by
    rw [keyBs, Bool.and_eq_true] at h
    rw [nks, NestedKey.depthAll, PyData.depthAll]
    have h1 := nk_depth d h.1
    have h2 := nks_depth ds h.2
    omega
end
mutual
theorem nk_reads {h : Heap} : ∀ (d : PyData) (v : Value) (as : List Addr), Reads h v d as → keyB d = true → NestedIs h (nk d) v
  | .none, v, as, r, _ => by cases r; rw [nk]; exact .none
  | .int i, v, as, r, _ => by cases r; rw [nk]; exact .int _ _
  | .str x, v, as, r, _ => by cases r; rw [nk]; exact .text _ _
  | .tuple ds, v, as, r, k => by
    rw [keyB] at k
    cases r with
    | tuple h1 h2 h3 h4 => rw [nk]; exact .tup h1 h2 h3 (nks_reads ds _ _ h4 k)
  | .bool b, _, _, _, hd => by simp [keyB] at hd
  | .list ds, _, _, _, hd => by simp [keyB] at hd
  | .dict ds, _, _, _, hd => by simp [keyB] at hd
theorem nks_reads {h : Heap} : ∀ (ds : List PyData) (vs : List Value) (as : List Addr), ReadsAll h vs ds as → keyBs ds = true → NestedAll h (nks ds) vs
  | [], vs, as, r, _ => by cases r; rw [nks]; exact .nil
  | d :: ds, vs, as, r, k => by
    rw [keyBs, Bool.and_eq_true] at k
    cases r with
    | cons h1 h2 => rw [nks]; exact .cons (nk_reads d _ _ h1 k.1) (nks_reads ds _ _ h2 k.2)
end
theorem nk_is {P : Program} {w : World} {h : Heap} {d : PyData} {a : Addr} {as : List Addr} (r : Reads h (.ref a) d as) (k : keyB d = true) (n : d.depth ≤ 8) : (nestedKind P w).is h (nk d) a :=
  ⟨nk_reads d _ as r k, Nat.le_trans (nk_depth d k) n⟩
end Eg
namespace Eg
open PySem L2
structure LamI where
  f : Addr
  c : Addr
  q : Str
  σ : L2.St
structure Kw where
  fr : PySem.W.Frag
  w : World
  mg : Str → Option Value
  exn : Option (Addr × Obj)
  lam : Option LamI
instance : Coe Kw PySem.W.Frag := ⟨Kw.fr⟩
abbrev _root_.L2.Cx.KW (X : Cx) : Kw := ⟨X.K, X.w, X.mg, bif X.calm then none else X.pn.head?, none⟩
class Tbs where
  T : List (Addr × Str)
def noT (o : HO) : Prop := ∀ ps, o ≠ .tbl ps
structure TB [Tbs] (F H : Hp) : Prop where
  tab : ∀ p ∈ Tbs.T, F p.1 = none ∧ ∃ ps : Array Value, H p.1 = some (.tbl ps) ∧ TriplesOk ps.toList ∧ ∀ (pos : Pos) (cv : Value), codeAmong pos ps.toList = some cv → ∃ c, cv = .ref c ∧ F c = some (LamX.CodeO c p.2)
  nt : ∀ b u, F b = some u → noT u
theorem TB.on [Tbs] {F H F' H' : Hp} (t : TB F H) (e : ∀ b u, F b = some u → F' b = some u) (n : ∀ b u, F' b = some u → noT u) (h : ∀ P ps, F P = none → H P = some (.tbl ps) → F' P = none ∧ H' P = some (.tbl ps)) : TB F' H' := ⟨fun p hp => by
  obtain ⟨h1, ps, h2, h3, h4⟩ := t.tab p hp
  obtain ⟨k1, k2⟩ := h p.1 ps h1 h2
  refine ⟨k1, ps, k2, h3, fun pos cv hc => ?_⟩
  obtain ⟨c, e1, e2⟩ := h4 pos cv hc
  exact ⟨c, e1, e _ _ e2⟩, n⟩
theorem TB.wr [Tbs] {F H : Hp} {a : Addr} {u v : HO} (t : TB F H) (h : H a = some v) (n : noT v) : TB F (upd H a u) :=
  t.on (fun _ _ h => h) t.nt fun P ps h1 h2 => ⟨h1, by rw [upd_ne (fun z => n ps (by rw [z, h] at h2; exact Option.some.inj h2))]; exact h2⟩
theorem TB.new [Tbs] {F H : Hp} {a : Addr} {u : HO} (t : TB F H) (h : H a = none) : TB F (upd H a u) :=
  t.on (fun _ _ h => h) t.nt fun P ps h1 h2 => ⟨h1, by rw [upd_ne (ne_of_none h2 h)]; exact h2⟩
theorem nt_upd {F : Hp} {p : Addr} {o : HO} (h : ∀ b u, F b = some u → noT u) (n : noT o) : ∀ b u, upd F p o b = some u → noT u := fun b u e => by
  by_cases q : b = p
  · subst q; rw [upd_same] at e; cases e; exact n
  · rw [upd_ne q] at e; exact h b u e
inductive SD where
  | d (d : PyData)
  | t (kvs : List (Key × PyData))
inductive OD where
  | sh (d : PyData)
  | ol (xs : List PyData)
  | od (kvs : List (Key × PyData))
  | kd (kvs : List (PyData × PyData))
  | sd (kvs : List (Key × PyData))
  | sn (kvs : List (PyData × PyData))
  | en (nm : Str) (flds : List (Str × PyData))
  | sc (ns : List Int)
  | ts (os : List SD)
  | lam (caps : List (Nat × PyData))
  | fn (nm : Str)
def OD.isO : OD → Bool
  | .sh _ => false
  | .sc _ => false
  | .sd _ => false
  | .sn _ => false
  | .en _ _ => false
  | .lam _ => false
  | .fn _ => false
  | .ts _ => false
  | .ol _ => true
  | .od _ => true
  | .kd _ => true
abbrev Rho := List (Option OD)
structure Xc where
  cls : Str
  flds : List (Str × PyData)
inductive Res (α : Type) where
  | ok (a : α) (r : Rho)
  | ex (x : Xc) (r : Rho)
  | bad
abbrev M (α : Type) := Rho → Res α
def M.bind {α β : Type} (m : M α) (f : α → M β) : M β := fun ρ => match m ρ with
  | .ok a ρ' => f a ρ'
  | .ex x ρ' => .ex x ρ'
  | .bad => .bad
def M.ret {α : Type} (a : α) : M α := fun ρ => .ok a ρ
def M.bad {α : Type} : M α := fun _ => .bad
def M.lift {α : Type} : Option α → M α
  | some a => M.ret a
  | none => M.bad
mutual
inductive DV (K : Kw) (H : Hp) : V → PyData → Prop
  | non : DV K H .non .none
  | bl (b : Bool) : DV K H (.bl b) (.bool b)
  | int (i : Int) : DV K H (.int i) (.int i)
  | str (x : Str) : DV K H (.str x) (.str x)
  | lst {a : Addr} {xs : List V} {ds : List PyData} : H a = some (.lst xs) → DVs K H xs ds → DV K H (.ref a) (.list ds)
  | tup {a : Addr} {xs : List V} {ds : List PyData} : SqT K H a xs → DVs K H xs ds → DV K H (.ref a) (.tuple ds)
inductive DVs (K : Kw) (H : Hp) : List V → List PyData → Prop
  | nil : DVs K H [] []
  | cons {v : V} {vs : List V} {d : PyData} {ds : List PyData} : DV K H v d → DVs K H vs ds → DVs K H (v :: vs) (d :: ds)
end
section
variable {K : Kw}
theorem _root_.L2.Same.sqT {K : PySem.W.Frag} {H H' : Hp} {a : Addr} {xs : List V} (e : Same H H') (h : SqT K H a xs) : SqT K H' a xs := by
  rcases h with (h | ⟨o, h⟩) | h
  · exact .inl (.inl (e _ _ h))
  · exact .inl (.inr ⟨o, e _ _ h⟩)
  · exact .inr h
mutual
theorem DV.mono {H H' : Hp} (e : Same H H') : ∀ {v : V} {d : PyData}, DV K H v d → DV K H' v d
  | _, _, .non => .non
  | _, _, .bl b => .bl b
  | _, _, .int i => .int i
  | _, _, .str x => .str x
  | _, _, .lst h1 h2 => .lst (e _ _ h1) (DVs.mono e h2)
  | _, _, .tup h1 h2 => .tup (e.sqT h1) (DVs.mono e h2)
theorem DVs.mono {H H' : Hp} (e : Same H H') : ∀ {vs : List V} {ds : List PyData}, DVs K H vs ds → DVs K H' vs ds
  | _, _, .nil => .nil
  | _, _, .cons h1 h2 => .cons (DV.mono e h1) (DVs.mono e h2)
end
mutual
theorem DV.dp {H : Hp} : ∀ {v : V} {d : PyData}, DV K H v d → L2.Dp K H v d
  | _, _, .non => .non
  | _, _, .bl b => .bl b
  | _, _, .int i => .int i
  | _, _, .str x => .str x
  | _, _, .lst h1 h2 => .lst (SqL.of h1) (DVs.dp h2)
  | _, _, .tup h1 h2 => .tup h1 (DVs.dp h2)
theorem DVs.dp {H : Hp} : ∀ {vs : List V} {ds : List PyData}, DVs K H vs ds → L2.DpAll K H vs ds
  | _, _, .nil => .nil
  | _, _, .cons h1 h2 => .cons (DV.dp h1) (DVs.dp h2)
end
theorem DVs.len {H : Hp} : ∀ {vs : List V} {ds : List PyData}, DVs K H vs ds → vs.length = ds.length
  | _, _, .nil => rfl
  | _, _, .cons _ h => by rw [List.length_cons, List.length_cons, DVs.len h]
theorem DVs.append {H : Hp} : ∀ {vs ws : List V} {ds es : List PyData}, DVs K H vs ds → DVs K H ws es → DVs K H (vs ++ ws) (ds ++ es)
  | _, _, _, _, .nil, h => h
  | _, _, _, _, .cons h1 h2, h => .cons h1 (DVs.append h2 h)
theorem DVs.get {H : Hp} : ∀ {vs : List V} {ds : List PyData} {i : Nat} {d : PyData}, DVs K H vs ds → ds[i]? = some d → ∃ v, vs[i]? = some v ∧ DV K H v d
  | _, _, _, _, .nil, e => by simp at e
  | _, _, 0, _, .cons h _, e => by simp at e; subst e; exact ⟨_, rfl, h⟩
  | _, _, i + 1, d, .cons _ h, e => by
    obtain ⟨v, h1, h2⟩ := DVs.get (i := i) (d := d) h (by simpa using e)
    exact ⟨v, by simpa using h1, h2⟩
theorem DVs.take {H : Hp} : ∀ {vs : List V} {ds : List PyData} (n : Nat), DVs K H vs ds → DVs K H (vs.take n) (ds.take n)
  | _, _, 0, _ => .nil
  | _, _, _ + 1, .nil => .nil
  | _, _, n + 1, .cons h1 h2 => .cons h1 (DVs.take n h2)
theorem DVs.drop {H : Hp} : ∀ {vs : List V} {ds : List PyData} (n : Nat), DVs K H vs ds → DVs K H (vs.drop n) (ds.drop n)
  | _, _, 0, h => h
  | _, _, _ + 1, .nil => .nil
  | _, _, n + 1, .cons h1 h2 => DVs.drop n h2
theorem DVs.set {H : Hp} {v : V} {d : PyData} (h : DV K H v d) : ∀ {vs : List V} {ds : List PyData} (i : Nat), DVs K H vs ds → DVs K H (vs.set i v) (ds.set i d)
  | _, _, _, .nil => .nil
  | _, _, 0, .cons _ h2 => .cons h h2
  | _, _, i + 1, .cons h1 h2 => .cons h1 (DVs.set h i h2)
theorem DVs.erase {H : Hp} : ∀ {vs : List V} {ds : List PyData} (i : Nat), DVs K H vs ds → DVs K H (vs.eraseIdx i) (ds.eraseIdx i)
  | _, _, _, .nil => .nil
  | _, _, 0, .cons _ h2 => h2
  | _, _, i + 1, .cons h1 h2 => .cons h1 (DVs.erase i h2)
inductive KD (K : Kw) (H : Hp) : List (Key × V) → List (Key × PyData) → Prop
  | nil : KD K H [] []
  | cons {k : Key} {v : V} {d : PyData} {es : List (Key × V)} {kvs : List (Key × PyData)} : DV K H v d → KD K H es kvs → KD K H ((k, v) :: es) ((k, d) :: kvs)
theorem KD.mono {H H' : Hp} (e : Same H H') : ∀ {es : List (Key × V)} {kvs : List (Key × PyData)}, KD K H es kvs → KD K H' es kvs
  | _, _, .nil => .nil
  | _, _, .cons h1 h2 => .cons (DV.mono e h1) (KD.mono e h2)
abbrev KRow := NestedKey × Addr × V
structure KObj (w : World) (a : Addr) (L : List KRow) (h : Heap) : Prop where
  far : (a == sysModules) = false
  size : L.length ≤ sizeLine
  ob : ∃ xs : List (NestedKey × Addr × Value), Paired (fun (p : KRow) (q : NestedKey × Addr × Value) => p.1 = q.1 ∧ p.2.1 = q.2.1 ∧ RelV p.2.2 q.2.2) L xs ∧ (xs.map (·.1)).Nodup ∧
    ∃ o es ep, h.get? a = some o ∧ o.ExactDict ∧ o.data = .dict es ep ∧ es.toList = xs.map fun x => (⟨x.1.hash w, .ref x.2.1, x.2.2⟩ : DictEntry)
def KO (w : World) (a : Addr) (L : List KRow) : HO := .ext (KObj w a L)
inductive KN (K : Kw) (H : Hp) : List KRow → List (PyData × PyData) → Prop
  | nil : KN K H [] []
  | cons {k d : PyData} {b : Addr} {v : V} {L : List KRow} {kvs : List (PyData × PyData)} : keyB k = true → k.depth ≤ 8 → DV K H (.ref b) k → DV K H v d → KN K H L kvs → KN K H ((nk k, b, v) :: L) ((k, d) :: kvs)
theorem KN.mono {H H' : Hp} (e : Same H H') : ∀ {L : List KRow} {kvs : List (PyData × PyData)}, KN K H L kvs → KN K H' L kvs
  | _, _, .nil => .nil
  | _, _, .cons h0 h1 h2 h3 h4 => .cons h0 h1 (DV.mono e h2) (DV.mono e h3) (KN.mono e h4)
def FrzD (F : Hp) (a : Addr) (es : List (Key × V)) : Prop := ∃ o, F a = some (.frz o (.dK es))
theorem FrzD.mono {F F' : Hp} {a : Addr} {es : List (Key × V)} (e : Same F F') : FrzD F a es → FrzD F' a es
  | ⟨o, h⟩ => ⟨o, e _ _ h⟩
def FrzN (F : Hp) (w : World) (a : Addr) (L : List KRow) : Prop := ∃ o, F a = some (.frz o (KO w a L))
theorem FrzN.mono {F F' : Hp} {w : World} {a : Addr} {L : List KRow} (e : Same F F') : FrzN F w a L → FrzN F' w a L
  | ⟨o, h⟩ => ⟨o, e _ _ h⟩
inductive SDs (K : Kw) (F : Hp) : List V → List SD → Prop
  | nil : SDs K F [] []
  | d {v : V} {x : PyData} {vs : List V} {os : List SD} : DV K F v x → SDs K F vs os → SDs K F (v :: vs) (.d x :: os)
  | t {a : Addr} {es : List (Key × V)} {kvs : List (Key × PyData)} {vs : List V} {os : List SD} : FrzD F a es → KD K F es kvs → SDs K F vs os → SDs K F (.ref a :: vs) (.t kvs :: os)
theorem SDs.mono {F F' : Hp} (e : Same F F') : ∀ {vs : List V} {os : List SD}, SDs K F vs os → SDs K F' vs os
  | _, _, .nil => .nil
  | _, _, .d h r => .d (DV.mono e h) (SDs.mono e r)
  | _, _, .t h1 h2 r => .t (h1.mono e) (KD.mono e h2) (SDs.mono e r)
theorem SDs.len {F : Hp} : ∀ {vs : List V} {os : List SD}, SDs K F vs os → vs.length = os.length
  | _, _, .nil => rfl
  | _, _, .d _ r => by rw [List.length_cons, List.length_cons, SDs.len r]
  | _, _, .t _ _ r => by rw [List.length_cons, List.length_cons, SDs.len r]
def OR (K : Kw) (F H : Hp) (v : V) : OD → Prop
  | .sh d => DV K F v d
  | .ol xs => ∃ a vs, v = .ref a ∧ F a = none ∧ H a = some (.lst vs) ∧ DVs K F vs xs
  | .od kvs => ∃ a es, v = .ref a ∧ F a = none ∧ H a = some (.dK es) ∧ KD K F es kvs
  | .kd kvs => ∃ a L, v = .ref a ∧ F a = none ∧ H a = some (KO K.w a L) ∧ KN K F L kvs
  | .sd kvs => ∃ a es, v = .ref a ∧ FrzD F a es ∧ KD K F es kvs
  | .sn kvs => ∃ a L, v = .ref a ∧ FrzN F K.w a L ∧ KN K F L kvs
  | .en nm flds => ∃ (a Cl dd : Addr) (oe : Obj) (vs : List V), v = .ref a ∧ K.exn = some (a, oe) ∧ K.mg nm = some (.ref Cl) ∧ Zc (.ref Cl) (some dd) oe ∧ F dd = some (.xd ((flds.map (·.1)).zip vs).reverse) ∧ DVs K F vs (flds.map (·.2))
  | .sc ns => ∃ a, v = .ref a ∧ SqL K F a (ns.map V.int)
  | .lam caps => ∃ li, K.lam = some li ∧ v = .ref li.f ∧ F li.c = some (LamX.CodeO li.c li.q) ∧ ∀ x ∈ caps, ∃ u, li.σ[x.1]? = some (some u) ∧ DV K F u x.2
  | .ts os => ∃ a vs, v = .ref a ∧ SqT K F a vs ∧ SDs K F vs os
  | .fn nm => ∃ f, v = .ref f ∧ K.mg nm = some (.ref f)
def own (σ : St) (ρ : Rho) (b : Addr) : Prop := ∃ (i : Nat) (o : OD), ρ[i]? = some (some o) ∧ o.isO = true ∧ σ[i]? = some (some (V.ref b))
variable [Tbs]
structure SR (K : Kw) (F H : Hp) (σ : St) (ρ : Rho) : Prop where
  sub : Same F H
  len : ρ.length = σ.length
  sl : ∀ (i : Nat) (o : OD), ρ[i]? = some (some o) → ∃ v, σ[i]? = some (some v) ∧ OR K F H v o
  sep : ∀ (i j : Nat) (o o' : OD) (a : Addr), i ≠ j → ρ[i]? = some (some o) → o.isO = true → ρ[j]? = some (some o') → o'.isO = true → σ[i]? = some (some (V.ref a)) → σ[j]? ≠ some (some (V.ref a))
  tb : TB F H
structure Grow (ow ow' : Addr → Prop) (F H F' H' : Hp) : Prop where
  ext : Same F F'
  keep : ∀ b o, H b = some o → noT o → ¬ ow b → H' b = some o
  kt : ∀ b ps, H b = some (.tbl ps) → ¬ ow b → ∃ ps', H' b = some (.tbl ps')
  new : ∀ b, F' b ≠ none → F b ≠ none ∨ H b = none ∨ ow b
  ows : ∀ b, ow' b → ow b ∨ H b = none
section
variable {ow ow1 ow2 : Addr → Prop} {F H F1 H1 F2 H2 : Hp}
theorem Grow.refl : Grow ow ow F H F H := ⟨Same.refl _, fun _ _ h _ _ => h, fun _ ps h _ => ⟨ps, h⟩, fun _ h => .inl h, fun _ h => .inl h⟩
theorem Grow.back (g : Grow ow ow1 F H F1 H1) {b : Addr} (h : H1 b = none) : H b = none ∨ ow b := by
  by_cases hb : ow b
  · exact .inr hb
  · cases e : H b with
    | none => exact .inl rfl
    | some o =>
      by_cases n : noT o
      · rw [g.keep b o e n hb] at h; cases h
      · obtain ⟨ps, rfl⟩ : ∃ ps, o = .tbl ps := Classical.byContradiction fun z => n fun ps q => z ⟨ps, q⟩
        obtain ⟨ps', q⟩ := g.kt b ps e hb
        rw [q] at h; cases h
theorem Grow.trans (g : Grow ow ow1 F H F1 H1) (g' : Grow ow1 ow2 F1 H1 F2 H2) : Grow ow ow2 F H F2 H2 := by
  have key : ∀ b o, H b = some o → ¬ ow b → ¬ ow1 b := fun b o h n h1 => by
    rcases g.ows b h1 with z | z
    · exact n z
    · rw [h] at z; cases z
  refine ⟨g.ext.trans g'.ext, fun b o h t n => g'.keep b o (g.keep b o h t n) t (key b o h n), fun b ps h n => ?_, fun b h => ?_, fun b h => ?_⟩
  · obtain ⟨ps1, h1⟩ := g.kt b ps h n
    exact g'.kt b ps1 h1 (key b _ h n)
  · rcases g'.new b h with z | z | z
    · exact g.new b z
    · exact .inr (g.back z)
    · rcases g.ows b z with y | y
      · exact .inr (.inr y)
      · exact .inr (.inl y)
  · rcases g'.ows b h with z | z
    · exact g.ows b z
    · rcases g.back z with y | y
      · exact .inr y
      · exact .inl y
theorem Grow.less (g : Grow ow ow1 F H F1 H1) (h : ∀ b, ow2 b → ow1 b) : Grow ow ow2 F H F1 H1 := ⟨g.ext, g.keep, g.kt, g.new, fun b z => g.ows b (h b z)⟩
theorem Grow.laid {p : Addr} {o : HO} (hp : H p = none) (fp : F p = none) : Grow ow ow F H (upd F p o) (upd H p o) := by
  refine ⟨fun b u h => ?_, fun b u h _ _ => ?_, fun b ps h _ => ⟨ps, ?_⟩, fun b h => ?_, fun b h => .inl h⟩
  · rw [upd_ne (ne_of_none h fp)]; exact h
  · rw [upd_ne (ne_of_none h hp)]; exact h
  · rw [upd_ne (ne_of_none h hp)]; exact h
  · by_cases e : b = p
    · subst e; exact .inr (.inl hp)
    · rw [upd_ne e] at h; exact .inl h
theorem Grow.fresh {p : Addr} {o : HO} (hp : H p = none) : Grow ow ow F H F (upd H p o) :=
  ⟨Same.refl _, fun b u h _ _ => by rw [upd_ne (ne_of_none h hp)]; exact h, fun b ps h _ => ⟨ps, by rw [upd_ne (ne_of_none h hp)]; exact h⟩, fun b h => .inl h, fun b h => .inl h⟩
theorem Grow.fix {p : Addr} {o : HO} (fp : F1 p = none) (g : Grow ow ow1 F H F1 H1) (hp : H p = none ∨ ow p) : Grow ow ow1 F H (upd F1 p o) H1 := by
  refine ⟨fun b u h => ?_, g.keep, g.kt, fun b h => ?_, g.ows⟩
  · have := g.ext b u h
    rw [upd_ne (ne_of_none this fp)]; exact this
  · by_cases e : b = p
    · subst e; exact .inr hp
    · rw [upd_ne e] at h; exact g.new b h
theorem Grow.wr {p : Addr} {o : HO} (h : ow p) : Grow ow ow F H F (upd H p o) :=
  ⟨Same.refl _, fun b u e _ n => by rw [upd_ne (fun z => n (by rw [z]; exact h))]; exact e, fun b ps e n => ⟨ps, by rw [upd_ne (fun z => n (by rw [z]; exact h))]; exact e⟩, fun b h => .inl h, fun b h => .inl h⟩
end
section
variable {F H F' H' : Hp} {σ : St} {ρ : Rho} {p : Addr} {o : HO} {v : V} {r : OD}
theorem KO_noT (w : World) (a : Addr) (L) : noT (KO w a L) := fun _ z => by unfold KO at z; cases z
theorem OR.keep (h : OR K F H v r) (e : Same F F') (hk : ∀ a, v = .ref a → r.isO = true → F' a = none ∧ ∀ u, H a = some u → noT u → H' a = some u) : OR K F' H' v r := by
  cases r with
  | sh d => exact DV.mono e h
  | sc ns =>
    obtain ⟨a, rfl, h⟩ := h
    exact ⟨a, rfl, e.seq h⟩
  | ol xs =>
    obtain ⟨a, vs, rfl, h1, h2, h3⟩ := h
    obtain ⟨k1, k2⟩ := hk a rfl rfl
    exact ⟨a, vs, rfl, k1, k2 _ h2 (fun _ z => by cases z), DVs.mono e h3⟩
  | od kvs =>
    obtain ⟨a, vs, rfl, h1, h2, h3⟩ := h
    obtain ⟨k1, k2⟩ := hk a rfl rfl
    exact ⟨a, vs, rfl, k1, k2 _ h2 (fun _ z => by cases z), KD.mono e h3⟩
  | kd kvs =>
    obtain ⟨a, vs, rfl, h1, h2, h3⟩ := h
    obtain ⟨k1, k2⟩ := hk a rfl rfl
    exact ⟨a, vs, rfl, k1, k2 _ h2 (KO_noT _ _ _), KN.mono e h3⟩
  | sd kvs =>
    obtain ⟨a, vs, rfl, h1, h3⟩ := h
    exact ⟨a, vs, rfl, h1.mono e, KD.mono e h3⟩
  | sn kvs =>
    obtain ⟨a, vs, rfl, h1, h3⟩ := h
    exact ⟨a, vs, rfl, h1.mono e, KN.mono e h3⟩
  | en nm flds =>
    obtain ⟨a, Cl, dd, oe, vs, rfl, h1, h2, h3, h4, h5⟩ := h
    exact ⟨a, Cl, dd, oe, vs, rfl, h1, h2, h3, e _ _ h4, DVs.mono e h5⟩
  | fn nm => exact h
  | lam caps =>
    obtain ⟨li, h1, h2, h3, h4⟩ := h
    exact ⟨li, h1, h2, e _ _ h3, fun x hx => by
      obtain ⟨u, u1, u2⟩ := h4 x hx
      exact ⟨u, u1, DV.mono e u2⟩⟩
  | ts os =>
    obtain ⟨a, vs, rfl, h1, h2⟩ := h
    exact ⟨a, vs, rfl, e.sqT h1, SDs.mono e h2⟩
theorem OR.refs (h : OR K F H v r) (i : r.isO = true) : ∃ a u, v = .ref a ∧ F a = none ∧ H a = some u := by
  cases r with
  | sh d => cases i
  | sc ns => cases i
  | sd ns => cases i
  | sn ns => cases i
  | en _ _ => cases i
  | ts _ => cases i
  | lam _ => cases i
  | fn _ => cases i
  | ol xs => obtain ⟨a, vs, rfl, h1, h2, h3⟩ := h; exact ⟨a, _, rfl, h1, h2⟩
  | od kvs => obtain ⟨a, vs, rfl, h1, h2, h3⟩ := h; exact ⟨a, _, rfl, h1, h2⟩
  | kd kvs => obtain ⟨a, vs, rfl, h1, h2, h3⟩ := h; exact ⟨a, _, rfl, h1, h2⟩
theorem OR.noT (h : OR K F H v r) (i : r.isO = true) {a : Addr} {u : HO} (e : v = .ref a) (hu : H a = some u) : noT u := by
  cases r with
  | sh d => cases i
  | sc ns => cases i
  | sd ns => cases i
  | sn ns => cases i
  | en _ _ => cases i
  | ts _ => cases i
  | lam _ => cases i
  | fn _ => cases i
  | ol xs => obtain ⟨b, vs, e2, h1, h2, h3⟩ := h; rw [e] at e2; cases e2; rw [hu] at h2; cases h2; exact fun _ z => by cases z
  | od kvs => obtain ⟨b, vs, e2, h1, h2, h3⟩ := h; rw [e] at e2; cases e2; rw [hu] at h2; cases h2; exact fun _ z => by cases z
  | kd kvs => obtain ⟨b, vs, e2, h1, h2, h3⟩ := h; rw [e] at e2; cases e2; rw [hu] at h2; cases h2; exact KO_noT _ _ _
theorem own.at (s : SR K F H σ ρ) (h : own σ ρ p) : F p = none ∧ ∃ u, H p = some u := by
  obtain ⟨i, o, e1, e2, e3⟩ := h
  obtain ⟨v, e4, e5⟩ := s.sl i o e1
  rw [e3] at e4; cases e4
  obtain ⟨a, u, z, h1, h2⟩ := e5.refs e2
  cases z
  exact ⟨h1, u, h2⟩
theorem own.noT (s : SR K F H σ ρ) (h : own σ ρ p) {u : HO} (hu : H p = some u) : noT u := by
  obtain ⟨i, o, e1, e2, e3⟩ := h
  obtain ⟨v, e4, e5⟩ := s.sl i o e1
  rw [e3] at e4; cases e4
  exact e5.noT e2 rfl hu
theorem SR.on (s : SR K F H σ ρ) (e : Same F F') (sub : Same F' H') (tb : TB F' H') (hk : ∀ a, own σ ρ a → F' a = none ∧ ∀ u, H a = some u → noT u → H' a = some u) : SR K F' H' σ ρ := by
  refine ⟨sub, s.len, fun i o h => ?_, s.sep, tb⟩
  obtain ⟨v, e1, e2⟩ := s.sl i o h
  exact ⟨v, e1, e2.keep e fun a ha io => hk a ⟨i, o, h, io, by rw [e1, ha]⟩⟩
theorem SR.laid (s : SR K F H σ ρ) (hp : H p = none) (nt : noT o := by intro _ z; cases z) : SR K (upd F p o) (upd H p o) σ ρ := by
  have fp : F p = none := s.sub.free hp
  refine s.on (fun b u h => by rw [upd_ne (ne_of_none h fp)]; exact h) (fun b u h => ?_) (s.tb.on (fun b u h => by rw [upd_ne (ne_of_none h fp)]; exact h) (nt_upd s.tb.nt nt) fun P ps h1 h2 => ⟨by rw [upd_ne (ne_of_none h2 hp)]; exact h1, by rw [upd_ne (ne_of_none h2 hp)]; exact h2⟩) fun a ha => ?_
  · by_cases e : b = p
    · subst e; rw [upd_same] at h ⊢; exact h
    · rw [upd_ne e] at h ⊢; exact s.sub b u h
  · obtain ⟨h1, u, h2⟩ := own.at s ha
    have ne : a ≠ p := ne_of_none h2 hp
    exact ⟨by rw [upd_ne ne]; exact h1, fun u h _ => by rw [upd_ne ne]; exact h⟩
theorem SR.fresh (s : SR K F H σ ρ) (hp : H p = none) : SR K F (upd H p o) σ ρ := by
  refine s.on (Same.refl _) (fun b u h => ?_) (s.tb.on (fun _ _ h => h) s.tb.nt fun P ps h1 h2 => ⟨h1, by rw [upd_ne (ne_of_none h2 hp)]; exact h2⟩) fun a ha => ?_
  · have := s.sub b u h
    rw [upd_ne (ne_of_none this hp)]; exact this
  · obtain ⟨h1, u, h2⟩ := own.at s ha
    exact ⟨h1, fun u h _ => by rw [upd_ne (ne_of_none h2 hp)]; exact h⟩
theorem SR.fix (s : SR K F H σ ρ) (no : ¬ own σ ρ p) (h : H p = some o) (fp : F p = none) (nt : noT o) : SR K (upd F p o) H σ ρ := by
  refine s.on (fun b u h => by rw [upd_ne (ne_of_none h fp)]; exact h) (fun b u q => ?_) (s.tb.on (fun b u h => by rw [upd_ne (ne_of_none h fp)]; exact h) (nt_upd s.tb.nt nt) fun P ps h1 h2 => ⟨by rw [upd_ne (fun z => nt ps (by rw [z, h] at h2; exact Option.some.inj h2))]; exact h1, h2⟩) fun a ha => ?_
  · by_cases e : b = p
    · subst e; rw [upd_same] at q; rw [← q]; exact h
    · rw [upd_ne e] at q; exact s.sub b u q
  · obtain ⟨h1, u, h2⟩ := own.at s ha
    exact ⟨by rw [upd_ne (fun z => no (by rw [← z]; exact ha))]; exact h1, fun u h _ => h⟩
end
structure Ct where
  K : Kw
  W : WX
  XR : Hp → Hp → Value → Option Addr → Xc → Prop
abbrev RRel (α : Type) := Hp → Hp → St → Rho → Rho → Hp → V → α → Prop
def PostE {α β : Type} (C : Ct) (RR : Hp → Hp → St → Rho → Rho → Hp → β → α → Prop) (σ : St) (ρ : Rho) (F H : Hp) (Q : β → Hp → Prop) : Res α → Prop
  | .ok r ρ' => ∀ F' H' v, Grow (own σ ρ) (own σ ρ') F H F' H' → SR C.K F' H' σ ρ' → RR F' H' σ ρ' ρ H v r → Q v H'
  | .ex x ρ' => ∀ F' H' cls d, Grow (own σ ρ) (own σ ρ') F H F' H' → SR C.K F' H' σ ρ' → C.XR F' H' cls d x → C.W cls d σ H'
  | .bad => False
def rD (K : Kw) : RRel PyData := fun F' _ _ _ _ _ v d => DV K F' v d
def rO (K : Kw) : RRel OD := fun F' H' σ ρ' ρ H v r => OR K F' H' v r ∧ (r.isO = true → ∀ a, v = .ref a → ¬ own σ ρ' a ∧ (H a = none ∨ own σ ρ a))
def tD (C : Ct) (m : M PyData) : TE := fun σ H Q => ∃ F ρ, SR C.K F H σ ρ ∧ PostE C (rD C.K) σ ρ F H Q (m ρ)
def tO (C : Ct) (m : M OD) : TE := fun σ H Q => ∃ F ρ, SR C.K F H σ ρ ∧ PostE C (rO C.K) σ ρ F H Q (m ρ)
def tT (C : Ct) (m : M Bool) : TT := fun σ H Q => ∃ F ρ, SR C.K F H σ ρ ∧ PostE (β := Bool) C (fun _ _ _ _ _ _ v d => v = d) σ ρ F H Q (m ρ)
section
variable {α β γ : Type} {C : Ct} {σ : St} {ρ ρ1 : Rho} {F H F1 H1 : Hp}
theorem PostE.step {RR RR' : Hp → Hp → St → Rho → Rho → Hp → β → α → Prop} {Q : β → Hp → Prop} {x : Res α} (g : Grow (own σ ρ) (own σ ρ1) F H F1 H1)
    (h : PostE C RR σ ρ F H Q x) (hr : ∀ F' H' ρ' v r, Grow (own σ ρ1) (own σ ρ') F1 H1 F' H' → RR' F' H' σ ρ' ρ1 H1 v r → RR F' H' σ ρ' ρ H v r) : PostE C RR' σ ρ1 F1 H1 Q x := by
  cases x with
  | ok r ρ' => exact fun F' H' v g' s r' => h F' H' v (g.trans g') s (hr _ _ _ _ _ g' r')
  | ex x ρ' => exact fun F' H' cls d g' s r' => h F' H' cls d (g.trans g') s r'
  | bad => exact h
theorem PostE.part {δ : Type} {RA : Hp → Hp → St → Rho → Rho → Hp → β → α → Prop} {RR : Hp → Hp → St → Rho → Rho → Hp → δ → γ → Prop} {Q : δ → Hp → Prop} {R : β → Hp → Prop} {ma : M α} {f : α → M γ}
    (h : PostE C RR σ ρ F H Q (ma.bind f ρ))
    (k : ∀ a ρ' F' H' v, ma ρ = .ok a ρ' → PostE C RR σ ρ F H Q (f a ρ') → Grow (own σ ρ) (own σ ρ') F H F' H' → SR C.K F' H' σ ρ' → RA F' H' σ ρ' ρ H v a → R v H') : PostE C RA σ ρ F H R (ma ρ) := by
  unfold M.bind at h
  cases e : ma ρ with
  | ok a ρ' => rw [e] at h; exact fun F' H' v g s r => k a ρ' F' H' v e h g s r
  | ex x ρ' => rw [e] at h; exact h
  | bad => rw [e] at h; exact h
end
def fz (o : OD) : M PyData := match o with
  | .sh d => M.ret d
  | .ol xs => M.ret (.list xs)
  | _ => M.bad
section
variable {X : Cx} {e : Expr} {C : Ct}
theorem o_of_d {m : M PyData} (h : PE X e (tD C m)) : PE X e (tO C (m.bind fun d => M.ret (.sh d))) := by
  refine ⟨fun pins s σ H Q I q => h.run pins s σ H Q I ?_⟩
  obtain ⟨F, ρ, sr, p⟩ := q
  exact ⟨F, ρ, sr, p.part fun a ρ' F' H' v _ q g s r => q F' H' v g s ⟨r, fun z => by cases z⟩⟩
theorem d_of_o {m : M OD} (h : PE X e (tO C m)) : PE X e (tD C (m.bind fz)) := by
  refine ⟨fun pins s σ H Q I q => h.run pins s σ H Q I ?_⟩
  obtain ⟨F, ρ, sr, p⟩ := q
  refine ⟨F, ρ, sr, p.part fun a ρ' F' H' v _ q g s r => ?_⟩
  cases a with
  | sh d => exact q F' H' v g s r.1
  | od kvs => exact q.elim
  | kd kvs => exact q.elim
  | sd kvs => exact q.elim
  | sn kvs => exact q.elim
  | en _ _ => exact q.elim
  | ts _ => exact q.elim
  | lam _ => exact q.elim
  | fn _ => exact q.elim
  | sc kvs => exact q.elim
  | ol xs =>
    obtain ⟨⟨a, vs, rfl, h1, h2, h3⟩, h4⟩ := r
    obtain ⟨n1, n2⟩ := h4 rfl a rfl
    refine q (upd F' a (.lst vs)) H' (.ref a) (g.fix h1 n2) (s.fix n1 h2 h1 (fun _ z => by cases z)) ?_
    exact .lst upd_same (DVs.mono (fun b u h => by rw [upd_ne (ne_of_none h h1)]; exact h) h3)
end
end
end Eg
namespace Eg
open PySem L2 PySem.W PySem.SeqAt
section
variable [Tbs] {X : Cx} {C : Ct} {e a b : Expr} {pos : Pos}
theorem _root_.L2.PE.imp {t t' : TE} (h : PE X e t) (i : ∀ σ H Q, t' σ H Q → t σ H Q) : PE X e t' := ⟨fun pins s σ H Q I q => h.run pins s σ H Q I (i _ _ _ q)⟩
def atom : PyData → Option V
  | .none => some .non
  | .bool b => some (.bl b)
  | .int i => some (.int i)
  | .str x => some (.str x)
  | _ => none
theorem atom_dv {K : Kw} {H : Hp} {d : PyData} {v : V} (h : atom d = some v) : DV K H v d := by
  cases d <;> simp [atom] at h <;> subst h <;> constructor
theorem d_c {t : TE} {v : V} {d : PyData} (h : PE X e (tC v)) (hd : atom d = some v) : PE X e (tD C (M.ret d)) :=
  h.imp fun σ H Q ⟨F, ρ, sr, p⟩ => p F H v Grow.refl sr (atom_dv hd)
theorem d_int {i : Int} {j} : PE X (.Constant (.int i) j pos) (tD C (M.ret (.int i))) := d_c (t := tC (.int i)) pe_int rfl
theorem d_str {i : Str} {j} : PE X (.Constant (.str i) j pos) (tD C (M.ret (.str i))) := d_c (t := tC (.str i)) pe_str rfl
theorem d_bool {i : Bool} {j} : PE X (.Constant (.bool i) j pos) (tD C (M.ret (.bool i))) := d_c (t := tC (.bl i)) pe_bl rfl
theorem d_none {j} : PE X (.Constant .none j pos) (tD C (M.ret .none)) := d_c (t := tC .non) pe_non rfl
theorem SR.wipe {K : Kw} {F H : Hp} {σ : St} {ρ : Rho} (i : Nat) (s : SR K F H σ ρ) : SR K F H σ (ρ.set i none) := by
  refine ⟨s.sub, by rw [List.length_set]; exact s.len, fun j o h => ?_, fun j k o o' a ne h1 i1 h2 i2 => ?_, s.tb⟩
  · by_cases e : i = j
    · subst e
      by_cases hl : i < ρ.length
      · rw [List.getElem?_set_self hl] at h; cases h
      · rw [List.getElem?_eq_none (by rw [List.length_set]; omega)] at h; cases h
    · rw [List.getElem?_set_ne e] at h; exact s.sl j o h
  · have go : ∀ {j : Nat} {o : OD}, (ρ.set i none)[j]? = some (some o) → ρ[j]? = some (some o) := fun {j o} h => by
      by_cases e : i = j
      · subst e
        by_cases hl : i < ρ.length
        · rw [List.getElem?_set_self hl] at h; cases h
        · rw [List.getElem?_eq_none (by rw [List.length_set]; omega)] at h; cases h
      · rw [List.getElem?_set_ne e] at h; exact h
    exact s.sep j k o o' a ne (go h1) i1 (go h2) i2
theorem own.wipe {σ : St} {ρ : Rho} {i : Nat} {b : Addr} (h : own σ (ρ.set i none) b) : own σ ρ b ∧ ∀ o a, ρ[i]? = some (some o) → σ[i]? = some (some (.ref a)) → True := by
  refine ⟨?_, fun _ _ _ _ => trivial⟩
  obtain ⟨j, o, e1, e2, e3⟩ := h
  by_cases e : i = j
  · subst e
    by_cases hl : i < ρ.length
    · rw [List.getElem?_set_self hl] at e1; cases e1
    · rw [List.getElem?_eq_none (by rw [List.length_set]; omega)] at e1; cases e1
  · rw [List.getElem?_set_ne e] at e1; exact ⟨j, o, e1, e2, e3⟩
theorem own.wipeNe {K : Kw} {F H : Hp} {σ : St} {ρ : Rho} {i : Nat} {o : OD} {a : Addr} (s : SR K F H σ ρ) (h : ρ[i]? = some (some o)) (io : o.isO = true) (ha : σ[i]? = some (some (.ref a))) : ¬ own σ (ρ.set i Option.none) a := by
  rintro ⟨j, o', e1, e2, e3⟩
  by_cases e : i = j
  · subst e
    have hl : i < ρ.length := (List.getElem?_eq_some_iff.mp h).1
    rw [List.getElem?_set_self hl] at e1; cases e1
  · rw [List.getElem?_set_ne e] at e1
    exact s.sep i j o o' a e h io e1 e2 ha e3
theorem SR.put {K : Kw} {F H : Hp} {σ : St} {ρ : Rho} {i : Nat} {v : V} {o : OD} (s : SR K F H σ ρ) (hv : σ[i]? = some (some v)) (h : OR K F H v o) (no : o.isO = true → ∀ a, v = .ref a → ¬ own σ (ρ.set i none) a) : SR K F H σ (ρ.set i (some o)) := by
  have n := s.wipe i
  have hl : i < ρ.length := by rw [s.len]; exact (List.getElem?_eq_some_iff.mp hv).1
  have same : ∀ {j : Nat}, i ≠ j → (ρ.set i (some o))[j]? = (ρ.set i none)[j]? := fun {j} e => by rw [List.getElem?_set_ne e, List.getElem?_set_ne e]
  refine ⟨s.sub, by rw [List.length_set]; exact s.len, fun j u hj => ?_, fun j k u u' a ne h1 i1 h2 i2 h3 h4 => ?_, s.tb⟩
  · by_cases e : i = j
    · subst e
      rw [List.getElem?_set_self hl] at hj
      cases hj
      exact ⟨v, hv, h⟩
    · rw [same e] at hj; exact n.sl j u hj
  · by_cases ej : i = j
    · subst ej
      rw [List.getElem?_set_self hl] at h1
      cases h1
      rw [same ne] at h2
      rw [hv] at h3
      exact no i1 a (Option.some.inj (Option.some.inj h3)) ⟨k, u', h2, i2, h4⟩
    · rw [same ej] at h1
      by_cases ek : i = k
      · subst ek
        rw [List.getElem?_set_self hl] at h2
        cases h2
        rw [hv] at h4
        exact no i2 a (Option.some.inj (Option.some.inj h4)) ⟨j, u, h1, i1, h3⟩
      · rw [same ek] at h2
        exact n.sep j k u u' a ne h1 i1 h2 i2 h3 h4
theorem own.put {σ : St} {ρ : Rho} {i : Nat} {o : OD} {b : Addr} (h : own σ (ρ.set i (some o)) b) : own σ (ρ.set i none) b ∨ (o.isO = true ∧ σ[i]? = some (some (.ref b))) := by
  obtain ⟨j, o', e1, e2, e3⟩ := h
  by_cases e : i = j
  · subst e
    by_cases hl : i < ρ.length
    · rw [List.getElem?_set_self hl] at e1; cases e1; exact .inr ⟨e2, e3⟩
    · rw [List.getElem?_eq_none (by rw [List.length_set]; omega)] at e1; cases e1
  · rw [List.getElem?_set_ne e] at e1
    exact .inl ⟨j, o', by rw [List.getElem?_set_ne e]; exact e1, e2, e3⟩
def mName (i : Nat) : M PyData := fun ρ => match ρ[i]? with
  | some (some (.sh d)) => .ok d ρ
  | some (some (.ol xs)) => .ok (.list xs) (ρ.set i (some (.sh (.list xs))))
  | _ => .bad
def mTake (i : Nat) : M OD := fun ρ => match ρ[i]? with
  | some (some (.sc _)) => .bad
  | some (some o) => .ok o (ρ.set i none)
  | _ => .bad
theorem d_name {i : Nat} (h : PE X e (tVar i)) : PE X e (tD C (mName i)) := by
  refine PE.imp h fun σ H Q ⟨F, ρ, sr, p⟩ => ?_
  unfold mName at p
  cases q : ρ[i]? with
  | none => rw [q] at p; exact p.elim
  | some o =>
    rw [q] at p
    cases o with
    | none => exact p.elim
    | some o =>
      obtain ⟨v, hv, r⟩ := sr.sl i o q
      cases o with
      | sh d => exact ⟨v, hv, p F H v Grow.refl sr r⟩
      | od kvs => exact p.elim
      | kd kvs => exact p.elim
      | sd kvs => exact p.elim
      | sn kvs => exact p.elim
      | en _ _ => exact p.elim
      | ts _ => exact p.elim
      | lam _ => exact p.elim
      | fn _ => exact p.elim
      | sc ns => exact p.elim
      | ol xs =>
        obtain ⟨a, vs, rfl, h1, h2, h3⟩ := r
        refine ⟨_, hv, p (upd F a (.lst vs)) H (.ref a) ?_ ?_ (.lst upd_same (DVs.mono (fun b u h => by rw [upd_ne (ne_of_none h h1)]; exact h) h3))⟩
        · refine Grow.less (Grow.fix h1 Grow.refl (.inr ⟨i, _, q, rfl, hv⟩)) fun b hb => ?_
          rcases hb.put with z | ⟨z, _⟩
          · exact (own.wipe z).1
          · cases z
        · have n := SR.fix (sr.wipe i) (own.wipeNe sr q rfl hv) h2 h1 (fun _ z => by cases z)
          have n2 := SR.put (i := i) (o := .sh (.list xs)) n hv (.lst upd_same (DVs.mono (fun b u h => by rw [upd_ne (ne_of_none h h1)]; exact h) h3)) (fun z => by cases z)
          rw [List.set_set] at n2
          exact n2
theorem o_take {i : Nat} (h : PE X e (tVar i)) : PE X e (tO C (mTake i)) := by
  refine PE.imp h fun σ H Q ⟨F, ρ, sr, p⟩ => ?_
  unfold mTake at p
  cases q : ρ[i]? with
  | none => rw [q] at p; exact p.elim
  | some o =>
    rw [q] at p
    cases o with
    | none => exact p.elim
    | some o =>
      obtain ⟨v, hv, r⟩ := sr.sl i o q
      have fin : PostE C (rO C.K) σ ρ F H Q (.ok o (ρ.set i none)) → ∃ v, σ[i]? = some (some v) ∧ Q v H := fun p =>
        ⟨v, hv, p F H v (Grow.less Grow.refl fun b hb => (own.wipe hb).1) (sr.wipe i) ⟨r, fun io a ha => by
          subst ha
          exact ⟨own.wipeNe sr q io hv, .inr ⟨i, o, q, io, hv⟩⟩⟩⟩
      cases o with
      | sh d => exact fin p
      | od kvs => exact fin p
      | kd kvs => exact fin p
      | sd kvs => exact fin p
      | sn kvs => exact fin p
      | en _ _ => exact fin p
      | ts _ => exact fin p
      | lam _ => exact fin p
      | fn _ => exact fin p
      | sc ns => exact p.elim
      | ol xs => exact fin p
def Stb {β α : Type} (RR : Hp → Hp → St → Rho → Rho → Hp → β → α → Prop) : Prop := ∀ σ ρ ρ1 F H F1 H1 ρ' F' H' v r, Grow (own σ ρ) (own σ ρ1) F H F1 H1 → RR F' H' σ ρ' ρ1 H1 v r → RR F' H' σ ρ' ρ H v r
theorem stb_D {K : Kw} : Stb (rD K) := fun _ _ _ _ _ _ _ _ _ _ _ _ _ r => r
theorem stb_O {K : Kw} : Stb (rO K) := fun _ _ _ _ _ _ _ _ _ _ v r g q => by
  refine ⟨q.1, fun io a e => ⟨(q.2 io a e).1, ?_⟩⟩
  rcases (q.2 io a e).2 with z | z
  · exact g.back z
  · rcases g.ows a z with y | y
    · exact .inr y
    · exact .inl y
theorem PostE.on {β γ : Type} {RR : Hp → Hp → St → Rho → Rho → Hp → β → γ → Prop} {σ : St} {ρ ρ1 : Rho} {F H F1 H1 : Hp} {Q : β → Hp → Prop} {x : Res γ} (h : PostE C RR σ ρ F H Q x) (st : Stb RR) (g : Grow (own σ ρ) (own σ ρ1) F H F1 H1) :
    PostE C RR σ ρ1 F1 H1 Q x := h.step g fun F' H' ρ' v r _ z => st _ _ _ _ _ _ _ _ _ _ _ _ g z
inductive Arg where
  | dat (d : PyData)
  | slot (i : Nat)
  | fr (kvs : List (PyData × PyData))
def res1 (ρ : Rho) : Arg → Option PyData
  | .dat d => some d
  | .fr _ => none
  | .slot i => match ρ[i]? with
    | some (some (.sh d)) => some d
    | some (some (.ol xs)) => some (.list xs)
    | _ => none
def rA (K : Kw) : Hp → Hp → St → Rho → Rho → Hp → V → Arg → Prop := fun F' _ σ _ _ _ v a => match a with
  | .dat d => DV K F' v d
  | .slot i => σ[i]? = some (some v)
  | .fr kvs => ∃ a L, v = .ref a ∧ FrzN F' K.w a L ∧ KN K F' L kvs
def tA (C : Ct) (m : M Arg) : TE := fun σ H Q => ∃ F ρ, SR C.K F H σ ρ ∧ PostE C (rA C.K) σ ρ F H Q (m ρ)
def Vw (K : Kw) (F H : Hp) (v : V) (d : PyData) : Prop := match d with
  | .list ds => ∃ a vs, v = .ref a ∧ H a = some (.lst vs) ∧ DVs K F vs ds
  | d => DV K F v d
theorem Vw.of {K : Kw} {F H : Hp} {v : V} {d : PyData} (h : DV K F v d) (s : Same F H) : Vw K F H v d := by
  cases h with
  | lst h1 h2 => exact ⟨_, _, rfl, s _ _ h1, h2⟩
  | non => exact .non
  | bl b => exact .bl b
  | int b => exact .int b
  | str b => exact .str b
  | tup h1 h2 => exact .tup h1 h2
theorem Vw.dv {K : Kw} {F H : Hp} {v : V} {d : PyData} (h : Vw K F H v d) (s : Same F H) : DV K H v d := by
  cases d with
  | list ds =>
    obtain ⟨a, vs, rfl, h1, h2⟩ := h
    exact .lst h1 (DVs.mono s h2)
  | _ => exact DV.mono s h
theorem rA.view {K : Kw} {F H : Hp} {σ : St} {ρ ρ0 : Rho} {H0 : Hp} {v : V} {a : Arg} {d : PyData} (s : SR K F H σ ρ) (h : rA K F H σ ρ ρ0 H0 v a) (r : res1 ρ a = some d) : Vw K F H v d := by
  cases a with
  | dat e => cases r; exact Vw.of h s.sub
  | fr kvs => cases r
  | slot i =>
    have h : σ[i]? = some (some v) := h
    simp only [res1] at r
    cases q : ρ[i]? with
    | none => rw [q] at r; cases r
    | some o =>
      rw [q] at r
      cases o with
      | none => cases r
      | some o =>
        obtain ⟨v', hv, ro⟩ := s.sl i o q
        rw [h] at hv; cases hv
        cases o with
        | sh e => cases r; exact Vw.of ro s.sub
        | ol xs =>
          cases r
          obtain ⟨a, vs, e1, h1, h2, h3⟩ := ro
          exact ⟨a, vs, e1, h2, h3⟩
        | od _ => cases r
        | kd _ => cases r
        | sd _ => cases r
        | sn _ => cases r
        | en _ _ => cases r
        | ts _ => cases r
        | lam _ => cases r
        | fn _ => cases r
        | sc _ => cases r
theorem rA.mono {K : Kw} {F H F' H' : Hp} {σ : St} {ρ ρ0 ρ' ρ0' : Rho} {H0 H0' : Hp} {v : V} {a : Arg} (e : Same F F') (h : rA K F H σ ρ ρ0 H0 v a) : rA K F' H' σ ρ' ρ0' H0' v a := by
  cases a with
  | dat d => exact DV.mono e h
  | slot i => exact h
  | fr kvs =>
    obtain ⟨a, L, h1, h2, h3⟩ := h
    exact ⟨a, L, h1, h2.mono e, KN.mono e h3⟩
theorem a_of_d {m : M PyData} (h : PE X e (tD C m)) : PE X e (tA C (m.bind fun d => M.ret (.dat d))) :=
  h.imp fun σ H Q ⟨F, ρ, sr, p⟩ => ⟨F, ρ, sr, p.part fun d ρ1 F1 H1 x e1 q1 g1 s1 r1 => q1 F1 H1 x g1 s1 r1⟩
def mSlot (i : Nat) : M Arg := fun ρ => match ρ[i]? with
  | some (some _) => .ok (.slot i) ρ
  | _ => .bad
theorem a_name {i : Nat} (h : PE X e (tVar i)) : PE X e (tA C (mSlot i)) := by
  refine PE.imp h fun σ H Q ⟨F, ρ, sr, p⟩ => ?_
  unfold mSlot at p
  cases q : ρ[i]? with
  | none => rw [q] at p; exact p.elim
  | some o =>
    rw [q] at p
    cases o with
    | none => exact p.elim
    | some o =>
      obtain ⟨v, hv, r⟩ := sr.sl i o q
      exact ⟨v, hv, p F H v Grow.refl sr hv⟩
theorem one {δ γ : Type} {ma : M Arg} {g : Arg → M γ} {RR : Hp → Hp → St → Rho → Rho → Hp → δ → γ → Prop} {σ : St} {ρ : Rho} {F H : Hp} {Q : δ → Hp → Prop} {R : V → Hp → Prop}
    (sr : SR C.K F H σ ρ) (st : Stb RR) (p : PostE C RR σ ρ F H Q (ma.bind g ρ))
    (k : ∀ x a ρ1 F1 H1, SR C.K F1 H1 σ ρ1 → Grow (own σ ρ) (own σ ρ1) F H F1 H1 → rA C.K F1 H1 σ ρ1 ρ H x a → PostE C RR σ ρ1 F1 H1 Q (g a ρ1) → R x H1) : tA C ma σ H R :=
  ⟨F, ρ, sr, p.part fun d ρ1 F1 H1 x e1 q1 g1 s1 r1 => k x d ρ1 F1 H1 s1 g1 r1 (q1.on st g1)⟩
def M.get : M Rho := fun ρ => .ok ρ ρ
def m2 {γ : Type} (g : PyData → PyData → Option γ) (ma mb : M Arg) : M γ := ma.bind fun a => mb.bind fun b => M.get.bind fun ρ => M.lift (do g (← res1 ρ a) (← res1 ρ b))
def m1 {γ : Type} (g : PyData → Option γ) (ma : M Arg) : M γ := ma.bind fun a => M.get.bind fun ρ => M.lift (do g (← res1 ρ a))
theorem lift_some {γ : Type} {RR : Hp → Hp → St → Rho → Rho → Hp → V → γ → Prop} {σ : St} {ρ ρ0 : Rho} {F H : Hp} {Q : VK} {x : Option γ} (p : PostE C RR σ ρ0 F H Q (M.lift x ρ)) : ∃ d, x = some d ∧ PostE C RR σ ρ0 F H Q (.ok d ρ) := by
  cases x with
  | none => exact p.elim
  | some d => exact ⟨d, rfl, p⟩
theorem two {γ : Type} {ma mb : M Arg} {g : PyData → PyData → Option γ} {RR : Hp → Hp → St → Rho → Rho → Hp → V → γ → Prop} {σ : St} {ρ : Rho} {F H : Hp} {Q : VK} {R : V → V → Hp → Prop}
    (sr : SR C.K F H σ ρ) (st : Stb RR) (p : PostE C RR σ ρ F H Q (m2 g ma mb ρ))
    (k : ∀ x y dx dy d ρ2 F2 H2, SR C.K F2 H2 σ ρ2 → Vw C.K F2 H2 x dx → Vw C.K F2 H2 y dy → g dx dy = some d → PostE C RR σ ρ2 F2 H2 Q (.ok d ρ2) → R x y H2) :
    tA C ma σ H fun x H1 => tA C mb σ H1 fun y H2 => R x y H2 :=
  one sr st p fun x a ρ1 F1 H1 s1 g1 r1 q1 => one s1 st q1 fun y b ρ2 F2 H2 s2 g2 r2 q2 => by
    obtain ⟨d, e, q⟩ := lift_some q2
    cases e1 : res1 ρ2 a with
    | none => rw [e1] at e; cases e
    | some dx =>
      cases e2 : res1 ρ2 b with
      | none => rw [e1, e2] at e; cases e
      | some dy =>
        rw [e1, e2] at e
        exact k x y dx dy d ρ2 F2 H2 s2 (rA.view (ρ0 := ρ) (H0 := H) s2 (rA.mono g2.ext r1) e1) (r2.view s2 e2) e q
def OpD (X : Cx) (f : Value → Value → Sem Value) (g : PyData → PyData → Option PyData) : Prop :=
  ∀ (pins : List (Addr × Obj)) (s : Shared) (σ : St) (H : Hp) (x y : V) (v u : Value) (dx dy d : PyData) (Q : VK), Inv X pins σ H s → RelV x v → RelV y u → DV X.KW H x dx → DV X.KW H y dy → g dx dy = some d →
    (∀ w, atom d = some w → Q w H) → wpAny (model X.prog X.w) X.A (f v u) (EP X pins σ Q) X.xe s
inductive Alloc (K : Kw) (F H : Hp) : Hp → Hp → V → OD → Prop
  | asis {v : V} {d : PyData} : DV K F v d → Alloc K F H F H v (.sh d)
  | tup {p : Addr} {vs : List V} {ds : List PyData} : H p = none → DVs K F vs ds → Alloc K F H (upd F p (.tup vs)) (upd H p (.tup vs)) (.ref p) (.sh (.tuple ds))
  | lst {p : Addr} {vs : List V} {ds : List PyData} : H p = none → DVs K F vs ds → Alloc K F H F (upd H p (.lst vs)) (.ref p) (.ol ds)
  | od {p : Addr} {es : List (Key × V)} {kvs : List (Key × PyData)} : H p = none → KD K F es kvs → Alloc K F H F (upd H p (.dK es)) (.ref p) (.od kvs)
theorem DVs.upd {K : Kw} {F : Hp} {p : Addr} {o : HO} {vs : List V} {ds : List PyData} (fp : F p = none) (h : DVs K F vs ds) : DVs K (L2.upd F p o) vs ds := DVs.mono (fun b u h => by rw [upd_ne (ne_of_none h fp)]; exact h) h
theorem Alloc.post {F H F' H' : Hp} {σ : St} {ρ : Rho} {v : V} {o : OD} {Q : VK} (s : SR C.K F H σ ρ) (h : Alloc C.K F H F' H' v o) (q : PostE C (rO C.K) σ ρ F H Q (.ok o ρ)) : Q v H' := by
  cases h with
  | asis h => exact q F H v Grow.refl s ⟨h, fun z => by cases z⟩
  | tup hp h =>
    have fp := s.sub.free hp
    exact q _ _ _ (Grow.laid hp fp) (s.laid hp) ⟨.tup (.inl (.inl upd_same)) (h.upd fp), fun z => by cases z⟩
  | @lst p vs ds hp h =>
    have fp := s.sub.free hp
    refine q _ _ _ (Grow.fresh hp) (s.fresh hp) ⟨⟨p, vs, rfl, fp, upd_same, h⟩, fun _ a e => ⟨fun z => ?_, .inl ?_⟩⟩
    · cases e
      obtain ⟨_, u, e2⟩ := own.at s z
      rw [hp] at e2; cases e2
    · cases e; exact hp
  | @od p es kvs hp h =>
    have fp := s.sub.free hp
    refine q _ _ _ (Grow.fresh hp) (s.fresh hp) ⟨⟨p, es, rfl, fp, upd_same, h⟩, fun _ a e => ⟨fun z => ?_, .inl ?_⟩⟩
    · cases e
      obtain ⟨_, u, e2⟩ := own.at s z
      rw [hp] at e2; cases e2
    · cases e; exact hp
def OpO (X : Cx) (f : Value → Value → Sem Value) (g : PyData → PyData → Option OD) : Prop :=
  ∀ (pins : List (Addr × Obj)) (s : Shared) (σ : St) (F H : Hp) (x y : V) (v u : Value) (dx dy : PyData) (o : OD) (Q : VK), Inv X pins σ H s → RelV x v → RelV y u → Same F H → Vw X.KW F H x dx → Vw X.KW F H y dy → g dx dy = some o →
    (∀ F' H' w, Alloc X.KW F H F' H' w o → Q w H') → wpAny (model X.prog X.w) X.A (f v u) (EP X pins σ Q) X.xe s
theorem d_op {op : Operator} {g : PyData → PyData → Option PyData} {ma mb : M Arg} (ho : OpD X (binaryOp op) g) (ha : PE X a (tA C ma)) (hb : PE X b (tA C mb)) (hK : X.KW = C.K := by rfl) : PE X (.BinOp a op b pos) (tD C (m2 g ma mb)) := by
  refine ⟨fun pins s σ H Q I ⟨F, ρ, sr, p⟩ => ?_⟩
  refine wpAny_BinOp (binT ha hb (R := fun x y H2 => ∃ dx dy d ρ2 F2, SR C.K F2 H2 σ ρ2 ∧ Vw C.K F2 H2 x dx ∧ Vw C.K F2 H2 y dy ∧ g dx dy = some d ∧ PostE C (rD C.K) σ ρ2 F2 H2 Q (.ok d ρ2)) I (two sr stb_D p fun x y dx dy d ρ2 F2 H2 s2 r1 r2 e q => ⟨dx, dy, d, ρ2, F2, s2, r1, r2, e, q⟩)
    fun v u s2 x y H2 I2 rx ry ⟨dx, dy, d, ρ2, F2, s2', r1, r2, hg, q⟩ => ?_)
  exact ho pins s2 σ H2 x y v u dx dy d Q I2 rx ry (hK ▸ r1.dv s2'.sub) (hK ▸ r2.dv s2'.sub) hg fun w hw => q F2 H2 w Grow.refl s2' (atom_dv hw)
theorem d_cmp {op : CmpOp} {g : PyData → PyData → Option PyData} {ma mb : M Arg} (ho : OpD X (compareOp op) g) (ha : PE X a (tA C ma)) (hb : PE X b (tA C mb)) (hK : X.KW = C.K := by rfl)
    (h1 : behindInMarks op b = false := by first | exact nobehind _ (by decide) (by decide) | rfl) : PE X (.Compare a [op] [b] pos) (tD C (m2 g ma mb)) := by
  refine ⟨fun pins s σ H Q I ⟨F, ρ, sr, p⟩ => ?_⟩
  refine wpAny_Compare1 (binT ha hb (R := fun x y H2 => ∃ dx dy d ρ2 F2, SR C.K F2 H2 σ ρ2 ∧ Vw C.K F2 H2 x dx ∧ Vw C.K F2 H2 y dy ∧ g dx dy = some d ∧ PostE C (rD C.K) σ ρ2 F2 H2 Q (.ok d ρ2)) I (two sr stb_D p fun x y dx dy d ρ2 F2 H2 s2 r1 r2 e q => ⟨dx, dy, d, ρ2, F2, s2, r1, r2, e, q⟩)
    fun v u s2 x y H2 I2 rx ry ⟨dx, dy, d, ρ2, F2, s2', r1, r2, hg, q⟩ => ?_) h1
  exact ho pins s2 σ H2 x y v u dx dy d Q I2 rx ry (hK ▸ r1.dv s2'.sub) (hK ▸ r2.dv s2'.sub) hg fun w hw => q F2 H2 w Grow.refl s2' (atom_dv hw)
theorem o_op {op : Operator} {g : PyData → PyData → Option OD} {ma mb : M Arg} (ho : OpO X (binaryOp op) g) (ha : PE X a (tA C ma)) (hb : PE X b (tA C mb)) (hK : X.KW = C.K := by rfl) : PE X (.BinOp a op b pos) (tO C (m2 g ma mb)) := by
  refine ⟨fun pins s σ H Q I ⟨F, ρ, sr, p⟩ => ?_⟩
  refine wpAny_BinOp (binT ha hb (R := fun x y H2 => ∃ dx dy d ρ2 F2, SR C.K F2 H2 σ ρ2 ∧ Vw C.K F2 H2 x dx ∧ Vw C.K F2 H2 y dy ∧ g dx dy = some d ∧ PostE C (rO C.K) σ ρ2 F2 H2 Q (.ok d ρ2)) I (two sr stb_O p fun x y dx dy d ρ2 F2 H2 s2 r1 r2 e q => ⟨dx, dy, d, ρ2, F2, s2, r1, r2, e, q⟩)
    fun v u s2 x y H2 I2 rx ry ⟨dx, dy, d, ρ2, F2, s2', r1, r2, hg, q⟩ => ?_)
  exact ho pins s2 σ F2 H2 x y v u dx dy d Q I2 rx ry s2'.sub (hK ▸ r1) (hK ▸ r2) hg fun F' H' w h => Alloc.post s2' (hK ▸ h) q
end
end Eg
namespace Eg
open PySem L2 PySem.W PySem.SeqAt
mutual
theorem DV.plain {K : Kw} {H : Hp} : ∀ {v : V} {d : PyData}, DV K H v d → d.plain = true
  | _, _, .non => rfl
  | _, _, .bl b => rfl
  | _, _, .int i => rfl
  | _, _, .str x => rfl
  | _, _, .lst h1 h2 => by simp only [PyData.plain]; exact DVs.plain h2
  | _, _, .tup h1 h2 => by simp only [PyData.plain]; exact DVs.plain h2
theorem DVs.plain {K : Kw} {H : Hp} : ∀ {vs : List V} {ds : List PyData}, DVs K H vs ds → PyData.plainAll ds = true
  | _, _, .nil => rfl
  | _, _, .cons h1 h2 => by simp only [PyData.plainAll, DV.plain h1, DVs.plain h2, Bool.and_self]
end
mutual
theorem DV.noDict {K : Kw} {H : Hp} : ∀ {v : V} {d : PyData}, DV K H v d → d.hasDict = false
  | _, _, .non => rfl
  | _, _, .bl b => rfl
  | _, _, .int i => rfl
  | _, _, .str x => rfl
  | _, _, .lst h1 h2 => by simp only [PyData.hasDict]; exact DVs.noDict h2
  | _, _, .tup h1 h2 => by simp only [PyData.hasDict]; exact DVs.noDict h2
theorem DVs.noDict {K : Kw} {H : Hp} : ∀ {vs : List V} {ds : List PyData}, DVs K H vs ds → PyData.hasDictAll ds = false
  | _, _, .nil => rfl
  | _, _, .cons h1 h2 => by simp only [PyData.hasDictAll, DV.noDict h1, DVs.noDict h2, Bool.or_self]
end
def small (d : PyData) : Bool := decide (d.depth ≤ 60)
def isNon : PyData → Bool
  | .none => true
  | _ => false
def gSub : PyData → PyData → Option PyData
  | .int i, .int j => some (.int (i - j))
  | _, _ => none
def gMod : PyData → PyData → Option PyData
  | .int i, .int j => if 0 < j then some (.int (i % j)) else none
  | _, _ => none
def gPow : PyData → PyData → Option PyData
  | .int i, .int j => if 0 ≤ j ∧ j ≤ 1000000 ∧ i.natAbs < 2 ^ 64 then some (.int (i ^ j.toNat)) else none
  | _, _ => none
def gEq (x y : PyData) : Option PyData := if small x = true then some (.bool (PyData.eqv x y)) else none
def gNe (x y : PyData) : Option PyData := if small x = true then some (.bool (!PyData.eqv x y)) else none
def cmpOk (x y : PyData) : Bool := alike x y && !isNon x && small x
def gLt (x y : PyData) : Option PyData := if cmpOk x y = true then some (.bool (dataLt x y)) else none
def gGt (x y : PyData) : Option PyData := if cmpOk x y = true then some (.bool (dataLt y x)) else none
def gLe (x y : PyData) : Option PyData := if cmpOk x y = true then some (.bool (!dataLt y x)) else none
def gGe (x y : PyData) : Option PyData := if cmpOk x y = true then some (.bool (!dataLt x y)) else none
def gIn : PyData → PyData → Option PyData
  | x, .list ys => if small x = true then some (.bool (ys.any fun y => PyData.eqv y x)) else none
  | x, .tuple ys => if small x = true then some (.bool (ys.any fun y => PyData.eqv y x)) else none
  | _, _ => none
def gNotIn : PyData → PyData → Option PyData
  | x, .list ys => if small x = true then some (.bool (!ys.any fun y => PyData.eqv y x)) else none
  | x, .tuple ys => if small x = true then some (.bool (!ys.any fun y => PyData.eqv y x)) else none
  | _, _ => none
section
variable {X : Cx}
theorem room_small {A : Around} {x y : PyData} (h : small x = true) (hu : A.units + 64 < cLine) : A.units + min x.depth y.depth < cLine := by
  have h1 : x.depth ≤ 60 := of_decide_eq_true h
  have := Nat.min_le_left x.depth y.depth
  omega
theorem room_smallR {A : Around} {x : PyData} {n : Nat} (h : small x = true) (hu : A.units + 64 < cLine) : A.units + 1 + min n x.depth < cLine := by
  have h1 : x.depth ≤ 60 := of_decide_eq_true h
  have := Nat.min_le_right n x.depth
  omega
theorem opd_int {f : Value → Value → Sem Value} {G : Int → Int → Prop} {r : Int → Int → V} {g : PyData → PyData → Option PyData} (ho : OpR X f (rI G r))
    (hg : ∀ x y d, g x y = some d → ∃ i j, x = .int i ∧ y = .int j ∧ G i j ∧ atom d = some (r i j)) : OpD X f g := by
  intro pins s σ H x y v u dx dy d Q I rx ry h1 h2 e q
  obtain ⟨i, j, rfl, rfl, hG, hd⟩ := hg dx dy d e
  cases h1
  cases h2
  exact ho pins s σ H _ _ v u Q I rx ry ⟨i, j, rfl, rfl, hG, q _ hd⟩
theorem od_sub : OpD X (binaryOp .Sub) gSub := by
  intro pins s σ H x y v u dx dy d Q I rx ry h1 h2 e q
  cases dx <;> cases dy <;> simp [gSub] at e
  subst e
  cases h1; cases h2
  exact op_sub pins s σ H _ _ v u Q I rx ry ⟨_, _, rfl, rfl, q _ rfl⟩
theorem od_mod : OpD X (binaryOp .Mod) gMod := opd_int op_mod fun x y d e => by
  cases x <;> cases y <;> simp only [gMod] at e <;> first | cases e | skip
  split at e <;> cases e
  rename_i h
  exact ⟨_, _, rfl, rfl, h, rfl⟩
theorem od_pow : OpD X (binaryOp .Pow) gPow := opd_int op_pow fun x y d e => by
  cases x <;> cases y <;> simp only [gPow] at e <;> first | cases e | skip
  split at e <;> cases e
  rename_i h
  exact ⟨_, _, rfl, rfl, h, rfl⟩
section
variable {pins : List (Addr × Obj)} {σ : St} {H : Hp} {s : Shared}
theorem DV.reads (I : Inv X pins σ H s) {d : PyData} {v : V} {u : Value} (h : DV X.KW H v d) (r : RelV v u) : ∃ as, Reads s.heap u d as := L2.Dp.reads I d v u (DV.dp h) r
end
theorem od_eq (hu : X.A.units + 64 < cLine) : OpD X (compareOp .Eq) gEq := by
  intro pins s σ H x y v u dx dy d Q I rx ry h1 h2 e q
  unfold gEq at e
  split at e <;> cases e
  rename_i h
  obtain ⟨as, r1⟩ := h1.reads I rx
  obtain ⟨bs, r2⟩ := h2.reads I ry
  exact eq_plain r1 r2 h1.plain h2.plain (room_small h hu) ⟨.bl _, H, I, rfl, q _ rfl⟩
theorem od_ne (hu : X.A.units + 64 < cLine) : OpD X (compareOp .NotEq) gNe := by
  intro pins s σ H x y v u dx dy d Q I rx ry h1 h2 e q
  unfold gNe at e
  split at e <;> cases e
  rename_i h
  obtain ⟨as, r1⟩ := h1.reads I rx
  obtain ⟨bs, r2⟩ := h2.reads I ry
  exact ne_plain r1 r2 h1.plain h2.plain (room_small h hu) ⟨.bl _, H, I, rfl, q _ rfl⟩
theorem cmpOk_at {x y : PyData} (h : cmpOk x y = true) : alike x y = true ∧ x ≠ .none ∧ small x = true := by
  unfold cmpOk at h
  simp only [Bool.and_eq_true] at h
  refine ⟨h.1.1, fun z => ?_, h.2⟩
  subst z
  simp [isNon] at h
theorem od_lt (hu : X.A.units + 64 < cLine) : OpD X (compareOp .Lt) gLt := by
  intro pins s σ H x y v u dx dy d Q I rx ry h1 h2 e q
  unfold gLt at e
  split at e <;> cases e
  rename_i h
  obtain ⟨c1, c2, c3⟩ := cmpOk_at h
  obtain ⟨as, r1⟩ := h1.reads I rx
  obtain ⟨bs, r2⟩ := h2.reads I ry
  exact lt_data r1 r2 c1 c2 (room_small c3 hu) ⟨.bl _, H, I, rfl, q _ rfl⟩
theorem od_gt (hu : X.A.units + 64 < cLine) : OpD X (compareOp .Gt) gGt := by
  intro pins s σ H x y v u dx dy d Q I rx ry h1 h2 e q
  unfold gGt at e
  split at e <;> cases e
  rename_i h
  obtain ⟨c1, c2, c3⟩ := cmpOk_at h
  obtain ⟨as, r1⟩ := h1.reads I rx
  obtain ⟨bs, r2⟩ := h2.reads I ry
  exact gt_data r1 r2 c1 c2 (room_small c3 hu) ⟨.bl _, H, I, rfl, q _ rfl⟩
theorem od_le (hu : X.A.units + 64 < cLine) : OpD X (compareOp .LtE) gLe := by
  intro pins s σ H x y v u dx dy d Q I rx ry h1 h2 e q
  unfold gLe at e
  split at e <;> cases e
  rename_i h
  obtain ⟨c1, c2, c3⟩ := cmpOk_at h
  obtain ⟨as, r1⟩ := h1.reads I rx
  obtain ⟨bs, r2⟩ := h2.reads I ry
  exact le_data r1 r2 c1 c2 (room_small c3 hu) ⟨.bl _, H, I, rfl, q _ rfl⟩
theorem od_ge (hu : X.A.units + 64 < cLine) : OpD X (compareOp .GtE) gGe := by
  intro pins s σ H x y v u dx dy d Q I rx ry h1 h2 e q
  unfold gGe at e
  split at e <;> cases e
  rename_i h
  obtain ⟨c1, c2, c3⟩ := cmpOk_at h
  obtain ⟨as, r1⟩ := h1.reads I rx
  obtain ⟨bs, r2⟩ := h2.reads I ry
  exact ge_data r1 r2 c1 c2 (room_small c3 hu) ⟨.bl _, H, I, rfl, q _ rfl⟩
theorem od_in (hu : X.A.units + 64 < cLine) : OpD X (compareOp .In) gIn := by
  intro pins s σ H x y v u dx dy d Q I rx ry h1 h2 e q
  cases dy with
  | list ys =>
    simp only [gIn] at e
    split at e <;> cases e
    rename_i h
    obtain ⟨as, r1⟩ := h1.reads I rx
    obtain ⟨bs, r2⟩ := h2.reads I ry
    have pl := h2.plain
    simp only [PyData.plain] at pl
    exact in_list_data r2 r1 pl h1.plain (room_smallR h hu) ⟨.bl _, H, I, rfl, q _ rfl⟩
  | tuple ys =>
    simp only [gIn] at e
    split at e <;> cases e
    rename_i h
    obtain ⟨as, r1⟩ := h1.reads I rx
    obtain ⟨bs, r2⟩ := h2.reads I ry
    have pl := h2.plain
    simp only [PyData.plain] at pl
    exact in_tuple_data r2 r1 pl h1.plain (room_smallR h hu) ⟨.bl _, H, I, rfl, q _ rfl⟩
  | _ => cases e
theorem od_notIn (hu : X.A.units + 64 < cLine) : OpD X (compareOp .NotIn) gNotIn := by
  intro pins s σ H x y v u dx dy d Q I rx ry h1 h2 e q
  cases dy with
  | list ys =>
    simp only [gNotIn] at e
    split at e <;> cases e
    rename_i h
    obtain ⟨as, r1⟩ := h1.reads I rx
    obtain ⟨bs, r2⟩ := h2.reads I ry
    have pl := h2.plain
    simp only [PyData.plain] at pl
    exact notIn_list_data r2 r1 pl h1.plain (room_smallR h hu) ⟨.bl _, H, I, rfl, q _ rfl⟩
  | tuple ys =>
    simp only [gNotIn] at e
    split at e <;> cases e
    rename_i h
    obtain ⟨as, r1⟩ := h1.reads I rx
    obtain ⟨bs, r2⟩ := h2.reads I ry
    have pl := h2.plain
    simp only [PyData.plain] at pl
    exact notIn_tuple_data r2 r1 pl h1.plain (room_smallR h hu) ⟨.bl _, H, I, rfl, q _ rfl⟩
  | _ => cases e
end
end Eg
namespace Eg
open PySem L2 PySem.W PySem.SeqAt
section
variable [Tbs] {X : Cx} {C : Ct} {e a b : Expr} {es : List Expr} {pos : Pos}
def aAdd : PyData → PyData → Option OD
  | .int i, .int j => some (.sh (.int (i + j)))
  | .str x, .str y => if x.length + y.length ≤ sizeLine then some (.sh (.str (x ++ y))) else none
  | .list xs, .list ys => if xs.length + ys.length ≤ sizeLine then some (.ol (xs ++ ys)) else none
  | .tuple xs, .tuple ys => if xs.length + ys.length ≤ sizeLine then some (.sh (.tuple (xs ++ ys))) else none
  | _, _ => none
theorem DVs.nil_iff {K : Kw} {H : Hp} {vs : List V} {ds : List PyData} (h : DVs K H vs ds) : vs = [] ↔ ds = [] := by
  cases h <;> simp
theorem ao_add : OpO X (binaryOp .Add) aAdd := by
  intro pins s σ F H x y v u dx dy o Q I rx ry sub h1 h2 e q
  cases dx with
  | int i =>
    cases dy <;> simp only [aAdd] at e <;> cases e
    cases h1; cases h2
    exact op_add pins s σ H _ _ v u Q I rx ry ⟨_, _, rfl, rfl, q _ _ _ (.asis (.int _))⟩
  | str i =>
    cases dy <;> simp only [aAdd] at e <;> first | cases e | skip
    split at e <;> cases e
    rename_i hz
    cases h1; cases h2
    exact op_add_str pins s σ H _ _ v u Q I rx ry ⟨_, _, rfl, rfl, hz, q _ _ _ (.asis (.str _))⟩
  | list xs =>
    cases dy <;> simp only [aAdd] at e <;> first | cases e | skip
    split at e <;> cases e
    rename_i hz
    obtain ⟨a1, vs, rfl, g1, k1⟩ := h1
    obtain ⟨a2, ws, rfl, g2, k2⟩ := h2
    exact op_cat pins s σ H _ _ v u Q I rx ry ⟨_, _, _, _, rfl, rfl, g1, g2, by rw [k1.len, k2.len]; exact hz, fun p hp => q _ _ _ (.lst hp (k1.append k2))⟩
  | tuple xs =>
    cases dy <;> simp only [aAdd] at e <;> first | cases e | skip
    split at e <;> cases e
    rename_i ys hz
    have h1' : DV X.KW F x (.tuple xs) := h1
    have h2' : DV X.KW F y (.tuple ys) := h2
    cases h1' with
    | tup g1 k1 =>
      cases h2' with
      | tup g2 k2 =>
        refine op_catA pins s σ H _ _ v u Q I rx ry ⟨_, _, _, _, rfl, rfl, sub.sqT g1, sub.sqT g2, by rw [k1.len, k2.len]; exact hz, fun z => ?_, fun z1 z2 => ?_, fun z1 z2 p hp => ?_⟩
        · have := k1.nil_iff.mp z
          subst this
          exact q _ _ _ (.asis (.tup g2 k2))
        · have := k2.nil_iff.mp z2
          subst this
          rw [List.append_nil] at q
          exact q _ _ _ (.asis (.tup g1 k1))
        · exact q _ _ _ (.tup hp (k1.append k2))
  | _ => cases dy <;> simp only [aAdd] at e <;> cases e
def aMul : PyData → PyData → Option OD
  | .int i, .int j => if (-(2 ^ 64) < i ∧ i < 2 ^ 64) ∨ (-(2 ^ 64) < j ∧ j < 2 ^ 64) then some (.sh (.int (i * j))) else none
  | .list xs, .int k => if -(2 ^ 63) ≤ k ∧ k < 2 ^ 63 ∧ xs.length * k.toNat ≤ sizeLine then some (.ol (List.replicate k.toNat xs).flatten) else none
  | _, _ => none
theorem DVs.rep {K : Kw} {H : Hp} {vs : List V} {ds : List PyData} (h : DVs K H vs ds) : ∀ n : Nat, DVs K H (List.replicate n vs).flatten (List.replicate n ds).flatten
  | 0 => .nil
  | n + 1 => by rw [List.replicate_succ, List.replicate_succ, List.flatten_cons, List.flatten_cons]; exact h.append (DVs.rep h n)
theorem ao_mul : OpO X (binaryOp .Mult) aMul := by
  intro pins s σ F H x y v u dx dy o Q I rx ry sub h1 h2 e q
  cases dx with
  | int i =>
    cases dy <;> simp only [aMul] at e <;> first | cases e | skip
    split at e <;> cases e
    rename_i hz
    cases h1; cases h2
    exact op_mul pins s σ H _ _ v u Q I rx ry ⟨_, _, rfl, rfl, hz, q _ _ _ (.asis (.int _))⟩
  | list xs =>
    cases dy <;> simp only [aMul] at e <;> first | cases e | skip
    split at e <;> cases e
    rename_i hz
    obtain ⟨a1, vs, rfl, g1, k1⟩ := h1
    cases h2
    exact op_rep pins s σ H _ _ v u Q I rx ry ⟨_, _, _, rfl, rfl, g1, hz.1, hz.2.1, by rw [k1.len]; exact hz.2.2, fun p hp => q _ _ _ (.lst hp (k1.rep _))⟩
  | _ => cases dy <;> simp only [aMul] at e <;> cases e
inductive rAs (K : Kw) (F : Hp) (σ : St) : List V → List Arg → Prop
  | nil : rAs K F σ [] []
  | dat {v : V} {d : PyData} {vs : List V} {as : List Arg} : DV K F v d → rAs K F σ vs as → rAs K F σ (v :: vs) (.dat d :: as)
  | slot {v : V} {i : Nat} {vs : List V} {as : List Arg} : σ[i]? = some (some v) → rAs K F σ vs as → rAs K F σ (v :: vs) (.slot i :: as)
  | fr {v : V} {kvs : List (PyData × PyData)} {vs : List V} {as : List Arg} : (∃ a L, v = .ref a ∧ FrzN F K.w a L ∧ KN K F L kvs) → rAs K F σ vs as → rAs K F σ (v :: vs) (.fr kvs :: as)
theorem rAs.mono {K : Kw} {F F' : Hp} {σ : St} (e : Same F F') : ∀ {vs : List V} {as : List Arg}, rAs K F σ vs as → rAs K F' σ vs as
  | _, _, .nil => .nil
  | _, _, .dat h t => .dat (DV.mono e h) (rAs.mono e t)
  | _, _, .slot h t => .slot h (rAs.mono e t)
  | _, _, .fr ⟨a, L, h1, h2, h3⟩ t => .fr ⟨a, L, h1, h2.mono e, KN.mono e h3⟩ (rAs.mono e t)
theorem rAs.len {K : Kw} {F : Hp} {σ : St} : ∀ {vs : List V} {as : List Arg}, rAs K F σ vs as → vs.length = as.length
  | _, _, .nil => rfl
  | _, _, .dat h t => by rw [List.length_cons, List.length_cons, rAs.len t]
  | _, _, .slot h t => by rw [List.length_cons, List.length_cons, rAs.len t]
  | _, _, .fr h t => by rw [List.length_cons, List.length_cons, rAs.len t]
def rL (K : Kw) : Hp → Hp → St → Rho → Rho → Hp → List V → List Arg → Prop := fun F' _ σ _ _ _ vs as => rAs K F' σ vs as
def tL (C : Ct) (m : M (List Arg)) : TA := fun σ H Q => ∃ F ρ, SR C.K F H σ ρ ∧ PostE C (rL C.K) σ ρ F H Q (m ρ)
theorem stb_L {K : Kw} : Stb (rL K) := fun _ _ _ _ _ _ _ _ _ _ _ _ _ r => r
def mNil : M (List Arg) := M.ret []
def mCons (ma : M Arg) (ms : M (List Arg)) : M (List Arg) := ma.bind fun a => ms.bind fun as => M.ret (a :: as)
theorem l_nil : PA X [] (tL C mNil) := ⟨fun pos pins s σ H Q I ⟨F, ρ, sr, p⟩ => pa_nil.run pos pins s σ H Q I (p F H [] Grow.refl sr .nil)⟩
theorem l_cons {ma : M Arg} {ms : M (List Arg)} (ha : PE X e (tA C ma)) (hr : PA X es (tL C ms)) (hs : starEach (e :: es) X.env = (false, eval e X.env) :: starEach es X.env := by rfl) : PA X (e :: es) (tL C (mCons ma ms)) := by
  refine ⟨fun pos pins s σ H Q I ⟨F, ρ, sr, p⟩ => (pa_cons ha hr hs).run pos pins s σ H Q I ?_⟩
  refine one sr stb_L p fun x a ρ1 F1 H1 s1 g1 r1 q1 => ?_
  refine ⟨F1, ρ1, s1, q1.part fun as ρ2 F2 H2 xs e2 q2 g2 s2 r2 => ?_⟩
  refine q2 F2 H2 (x :: xs) g2 s2 ?_
  cases a with
  | dat d => exact .dat (DV.mono g2.ext r1) r2
  | slot i => exact .slot r1 r2
  | fr kvs =>
    obtain ⟨b, L, h1, h2, h3⟩ := r1
    exact .fr ⟨b, L, h1, h2.mono g2.ext, KN.mono g2.ext h3⟩ r2
def resL (ρ : Rho) : List Arg → Option (List PyData)
  | [] => some []
  | a :: as => do (← res1 ρ a) :: (← resL ρ as)
inductive Vws (K : Kw) (F H : Hp) : List V → List PyData → Prop
  | nil : Vws K F H [] []
  | cons {v : V} {d : PyData} {vs : List V} {ds : List PyData} : Vw K F H v d → Vws K F H vs ds → Vws K F H (v :: vs) (d :: ds)
theorem rAs.views {K : Kw} {F H : Hp} {σ : St} {ρ : Rho} (s : SR K F H σ ρ) : ∀ {vs : List V} {as : List Arg} {ds : List PyData}, rAs K F σ vs as → resL ρ as = some ds → Vws K F H vs ds
  | _, [], _, .nil, r => by cases r; exact .nil
  | _, _ :: as, _, .dat h t, r => by
    simp only [resL, res1] at r
    cases e : resL ρ as with
    | none => rw [e] at r; cases r
    | some ds =>
      rw [e] at r; cases r
      exact .cons (Vw.of h s.sub) (rAs.views s t e)
  | _, .slot i :: as, _, .slot h t, r => by
    simp only [resL] at r
    cases e0 : res1 ρ (.slot i) with
    | none => rw [e0] at r; cases r
    | some d =>
      cases e : resL ρ as with
      | none => rw [e0, e] at r; cases r
      | some ds =>
        rw [e0, e] at r; cases r
        exact .cons (rA.view (ρ0 := ρ) (H0 := H) s (a := .slot i) h e0) (rAs.views s t e)
  | _, .fr _ :: as, _, .fr _ _, r => by
    simp only [resL, res1] at r
    cases r
def mL {γ : Type} (g : List PyData → Option γ) (ms : M (List Arg)) : M γ := ms.bind fun as => M.get.bind fun ρ => M.lift (do g (← resL ρ as))
theorem many {γ : Type} {ms : M (List Arg)} {g : List PyData → Option γ} {RR : Hp → Hp → St → Rho → Rho → Hp → V → γ → Prop} {σ : St} {ρ : Rho} {F H : Hp} {Q : VK} {R : List V → Hp → Prop}
    (sr : SR C.K F H σ ρ) (st : Stb RR) (p : PostE C RR σ ρ F H Q (mL g ms ρ))
    (k : ∀ xs ds d ρ2 F2 H2, SR C.K F2 H2 σ ρ2 → Vws C.K F2 H2 xs ds → g ds = some d → PostE C RR σ ρ2 F2 H2 Q (.ok d ρ2) → R xs H2) : tL C ms σ H R :=
  ⟨F, ρ, sr, p.part fun as ρ1 F1 H1 xs e1 q1 g1 s1 r1 => by
    have q1 := q1.on st g1
    obtain ⟨d, e, q⟩ := lift_some q1
    cases e2 : resL ρ1 as with
    | none => rw [e2] at e; cases e
    | some ds =>
      rw [e2] at e
      exact k xs ds d ρ1 F1 H1 s1 (rAs.views s1 r1 e2) e q⟩
def CallO (X : Cx) (f : Value) (g : List PyData → Option OD) : Prop :=
  ∀ (pins : List (Addr × Obj)) (s : Shared) (σ : St) (F H : Hp) (xs : List V) (us : List Value) (ds : List PyData) (o : OD) (Q : VK), Inv X pins σ H s → Vals xs us → Same F H → Vws X.KW F H xs ds → g ds = some o →
    (∀ F' H' w, Alloc X.KW F H F' H' w o → Q w H') → wpAny (model X.prog X.w) X.A (call f us) (EP X pins σ Q) X.xe s
theorem callO_of {f : Value} {r : List V → Hp → VK → Prop} {g : List PyData → Option OD} (hc : CallR X f r)
    (h : ∀ F H xs ds o Q, Same F H → Vws X.KW F H xs ds → g ds = some o → (∀ F' H' w, Alloc X.KW F H F' H' w o → Q w H') → r xs H Q) : CallO X f g :=
  fun pins s σ F H xs us ds o Q I r sub vw e q => hc pins s σ H xs us Q I r (h F H xs ds o Q sub vw e q)
theorem o_call {id : String} {x : Str} {p : Pos} {g : List PyData → Option OD} {ms : M (List Arg)} (hc : CallO X (.builtin id) g) (hg : Gl X x) (hm : X.mg x = none) (hv : bootBuiltins x = some (.builtin id)) (ha : PA X (e :: es) (tL C ms)) (hn : x ≠ "__name__" := by decide) (hdb : (x == ("__debug__" : Str)) = false := by decide)
    (he : starEach (e :: es) X.env = (false, eval e X.env) :: starEach es X.env := by rfl) (hpl : (backTo pos (starEach es X.env)).any (·.1) = false := by rfl) (hK : X.KW = C.K := by rfl) : PE X (.Call (.Name x p) (e :: es) [] pos) (tO C (mL g ms)) := by
  refine ⟨fun pins s σ H Q I ⟨F, ρ, sr, pp⟩ => ?_⟩
  refine wpAny_Call_Name_kw (ld_blt I hg hm hv ?_ hn hdb)
  refine PyProof.Rows.callWith_builtin1 (thn (ha.run pos pins s σ H (fun xs H2 => ∃ ds d ρ2 F2, SR C.K F2 H2 σ ρ2 ∧ Vws C.K F2 H2 xs ds ∧ g ds = some d ∧ PostE C (rO C.K) σ ρ2 F2 H2 Q (.ok d ρ2)) I (many sr stb_O pp fun xs ds d ρ2 F2 H2 s2 vw e q => ⟨ds, d, ρ2, F2, s2, vw, e, q⟩))
    fun us s1 ⟨vs, H1, I1, r1, ds, d, ρ2, F2, s2, vw, e, q⟩ => ?_) he hpl
  exact hc pins s1 σ F2 H1 vs us ds d Q I1 r1 s2.sub (hK ▸ vw) e fun F' H' w h => Alloc.post s2 (hK ▸ h) q
theorem o_callTy {T : String} {x : Str} {p : Pos} {g : List PyData → Option OD} {ms : M (List Arg)} (hc : CallO X (.type T) g) (hg : Gl X x) (hm : X.mg x = none) (hv : bootBuiltins x = some (.type T)) (ha : PA X (e :: es) (tL C ms)) (hn : x ≠ "__name__" := by decide) (hdb : (x == ("__debug__" : Str)) = false := by decide)
    (he : starEach (e :: es) X.env = (false, eval e X.env) :: starEach es X.env := by rfl) (hpl : (backTo pos (starEach es X.env)).any (·.1) = false := by rfl) (hK : X.KW = C.K := by rfl) : PE X (.Call (.Name x p) (e :: es) [] pos) (tO C (mL g ms)) := by
  refine ⟨fun pins s σ H Q I ⟨F, ρ, sr, pp⟩ => ?_⟩
  refine wpAny_Call_Name_kw (ld_blt I hg hm hv ?_ hn hdb)
  refine PyProof.Rows.callWith_type1 (thn (ha.run pos pins s σ H (fun xs H2 => ∃ ds d ρ2 F2, SR C.K F2 H2 σ ρ2 ∧ Vws C.K F2 H2 xs ds ∧ g ds = some d ∧ PostE C (rO C.K) σ ρ2 F2 H2 Q (.ok d ρ2)) I (many sr stb_O pp fun xs ds d ρ2 F2 H2 s2 vw e q => ⟨ds, d, ρ2, F2, s2, vw, e, q⟩))
    fun us s1 ⟨vs, H1, I1, r1, ds, d, ρ2, F2, s2, vw, e, q⟩ => ?_) he hpl
  exact hc pins s1 σ F2 H1 vs us ds d Q I1 r1 s2.sub (hK ▸ vw) e fun F' H' w h => Alloc.post s2 (hK ▸ h) q
def fixL : List Arg → Option (List PyData)
  | [] => some []
  | .dat d :: as => (fixL as).map (d :: ·)
  | .slot _ :: _ => none
  | .fr _ :: _ => none
theorem rAs.fixed {K : Kw} {F : Hp} {σ : St} : ∀ {vs : List V} {as : List Arg} {ds : List PyData}, rAs K F σ vs as → fixL as = some ds → DVs K F vs ds
  | _, [], _, .nil, r => by cases r; exact .nil
  | _, _ :: as, _, .dat h t, r => by
    simp only [fixL] at r
    cases e : fixL as with
    | none => rw [e] at r; cases r
    | some ds => rw [e] at r; cases r; exact .cons h (rAs.fixed t e)
  | _, _, _, .slot _ _, r => by cases r
  | _, _, _, .fr _ _, r => by cases r
def mFix {γ : Type} (g : List PyData → Option γ) (ms : M (List Arg)) : M γ := ms.bind fun as => M.lift (do g (← fixL as))
def tupG (ds : List PyData) : Option PyData := if ds.length ≤ sizeLine then some (.tuple ds) else none
def lstG (ds : List PyData) : Option OD := if ds.length ≤ sizeLine then some (.ol ds) else none
theorem d_tup {x1} {ms : M (List Arg)} (h : PA X es (tL C ms)) : PE X (.Tuple es x1 pos) (tD C (mFix tupG ms)) := by
  refine (pe_tup h).imp fun σ H Q ⟨F, ρ, sr, p⟩ => ?_
  refine ⟨F, ρ, sr, p.part fun as ρ1 F1 H1 xs e1 q1 g1 s1 r1 => ?_⟩
  obtain ⟨d, e, q⟩ := lift_some q1
  cases e2 : fixL as with
  | none => rw [e2] at e; cases e
  | some ds =>
    rw [e2] at e
    have r2 := r1.fixed e2
    simp only [tupG, Option.bind_eq_bind, Option.bind_some] at e
    split at e <;> cases e
    rename_i hz
    refine ⟨by rw [r2.len]; exact hz, fun p hp => ?_⟩
    have fp := s1.sub.free hp
    exact q _ _ _ (g1.trans (Grow.laid hp fp)) (s1.laid hp) (.tup (.inl (.inl upd_same)) (r2.upd fp))
theorem o_lst {ms : M (List Arg)} (h : PA X es (tL C ms)) : PE X (.List es pos) (tO C (mFix lstG ms)) := by
  refine (pe_lst h).imp fun σ H Q ⟨F, ρ, sr, p⟩ => ?_
  refine ⟨F, ρ, sr, p.part fun as ρ1 F1 H1 xs e1 q1 g1 s1 r1 => ?_⟩
  have q1 := q1.on stb_O g1
  obtain ⟨d, e, q⟩ := lift_some q1
  cases e2 : fixL as with
  | none => rw [e2] at e; cases e
  | some ds =>
    rw [e2] at e
    have r2 := r1.fixed e2
    simp only [lstG, Option.bind_eq_bind, Option.bind_some] at e
    split at e <;> cases e
    rename_i hz
    exact ⟨by rw [r2.len]; exact hz, fun p hp => Alloc.post s1 (.lst hp r2) q⟩
def gIx : PyData → PyData → Option PyData
  | .list ds, .int i => atI ds i
  | .tuple ds, .int i => atI ds i
  | .str z, .int i => if z.length ≤ sizeLine then (atI z.cps.toList i).map fun c => .str ⟨#[c]⟩ else none
  | _, _ => none
theorem DVs.atI {K : Kw} {H : Hp} {vs : List V} {ds : List PyData} {i : Int} {d : PyData} (h : DVs K H vs ds) (e : L2.atI ds i = some d) : ∃ v, L2.atI vs i = some v ∧ DV K H v d := by
  unfold L2.atI at e ⊢
  rw [h.len]
  cases q : ixN ds.length i with
  | none => rw [q] at e; cases e
  | some j => rw [q] at e; exact h.get e
theorem d_ix {ma mb : M Arg} (ha : PE X a (tA C ma)) (hb : PE X b (tA C mb)) (hs : PlainIx b) (hK : X.KW = C.K := by rfl) : PE X (.Subscript a b pos) (tD C (m2 gIx ma mb)) := by
  refine (pe_ix ix_seq ha hb hs).imp fun σ H Q ⟨F, ρ, sr, p⟩ => ?_
  refine two sr stb_D p fun x y dx dy d ρ2 F2 H2 s2 r1 r2 e q => ?_
  rw [show X.K = C.K.fr from congrArg Kw.fr hK]
  cases dx with
  | list ds =>
    cases dy <;> simp only [gIx] at e <;> first | cases e | skip
    obtain ⟨p, vs, rfl, h1, h2⟩ := r1
    cases r2
    obtain ⟨w, e1, h3⟩ := h2.atI e
    exact .inl ⟨_, _, _, w, rfl, rfl, SqL.of h1, e1, q F2 H2 w Grow.refl s2 h3⟩
  | tuple ds =>
    cases dy <;> simp only [gIx] at e <;> first | cases e | skip
    have r1' : DV C.K F2 x (.tuple ds) := r1
    cases r1' with
    | tup h1 h2 =>
      cases r2
      obtain ⟨w, e1, h3⟩ := h2.atI e
      exact .inr (.inl ⟨_, _, _, w, rfl, rfl, s2.sub.sqT h1, e1, q F2 H2 w Grow.refl s2 h3⟩)
  | str z =>
    cases dy <;> simp only [gIx] at e <;> first | cases e | skip
    split at e <;> try cases e
    rename_i i hz
    cases r1; cases r2
    cases e2 : L2.atI z.cps.toList i with
    | none => rw [e2] at e; cases e
    | some c =>
      rw [e2] at e; cases e
      exact .inr (.inr ⟨_, _, c, rfl, rfl, hz, e2, q F2 H2 _ Grow.refl s2 (.str _)⟩)
  | _ => cases dy <;> simp only [gIx] at e <;> cases e
end
end Eg
namespace Eg
open PySem L2 PySem.W PySem.SeqAt
section
variable [Tbs] {X : Cx} {C : Ct} {e a b : Expr} {es : List Expr} {pos p2 : Pos}
def tPt (C : Ct) (m : M (Option Int)) : TO := fun σ H Q => ∃ F ρ, SR C.K F H σ ρ ∧ PostE (β := Option Int) C (fun _ _ _ _ _ _ v d => v = d) σ ρ F H Q (m ρ)
theorem stb_T {β : Type} : Stb (fun (_ _ : Hp) (_ : St) (_ _ : Rho) (_ : Hp) (v d : β) => v = d) := fun _ _ _ _ _ _ _ _ _ _ _ _ _ r => r
def asInt : PyData → M Int
  | .int i => M.ret i
  | _ => M.bad
theorem pt_none : PO X none (tPt C (M.ret none)) := ⟨fun pins s σ H Q I ⟨F, ρ, sr, p⟩ => po_none.run pins s σ H Q I (p F H none Grow.refl sr rfl)⟩
theorem pt_some {m : M PyData} (h : PE X e (tD C m)) : PO X (some e) (tPt C (m.bind fun d => (asInt d).bind fun i => M.ret (some i))) :=
  ⟨fun pins s σ H Q I ⟨F, ρ, sr, p⟩ => (po_some h).run pins s σ H Q I ⟨F, ρ, sr, p.part fun d ρ1 F1 H1 x e1 q1 g1 s1 r1 => by
    have q1 := q1.on stb_T g1
    cases d with
    | int i => cases r1; exact ⟨i, rfl, q1 F1 H1 _ Grow.refl s1 rfl⟩
    | _ => exact q1.elim⟩⟩
def cutD (xs : List PyData) (lo hi : Option Int) : List PyData := (xs.drop (HT.sIx xs.length 0 lo)).take (HT.sIx xs.length xs.length hi - HT.sIx xs.length 0 lo)
theorem DVs.cut {K : Kw} {H : Hp} {vs : List V} {ds : List PyData} (h : DVs K H vs ds) (lo hi : Option Int) : DVs K H (cutV vs lo hi) (cutD ds lo hi) := by
  unfold cutV cutD
  rw [h.len]
  exact (h.drop _).take _
def gSl (d : PyData) (lo hi : Option Int) : Option OD := match d with
  | .list ds => some (.ol (cutD ds lo hi))
  | .tuple ds => some (.sh (.tuple (cutD ds lo hi)))
  | .str z => if z.length ≤ sizeLine then some (.sh (.str (cutS z lo hi))) else none
  | _ => none
def mSl (ma : M Arg) (ml mh : M (Option Int)) : M OD := ma.bind fun a => ml.bind fun l => mh.bind fun h => M.get.bind fun ρ => M.lift (do gSl (← res1 ρ a) l h)
omit [Tbs] in
theorem cutD_whole {ds : List PyData} {lo hi : Option Int} (h : HT.sIx ds.length 0 lo = 0 ∧ HT.sIx ds.length ds.length hi = ds.length) : cutD ds lo hi = ds := by
  unfold cutD
  rw [h.1, h.2, List.drop_zero, Nat.sub_zero, List.take_length]
theorem o_sl {lo hi : Option Expr} {ma : M Arg} {ml mh : M (Option Int)} (ha : PE X a (tA C ma)) (hl : PO X lo (tPt C ml)) (hh : PO X hi (tPt C mh)) (hK : X.KW = C.K := by rfl) :
    PE X (.Subscript a (.Slice lo hi none p2) pos) (tO C (mSl ma ml mh)) := by
  refine (pe_slice (sl_list.or (sl_tupA.or sl_str)) ha hl hh).imp fun σ H Q ⟨F, ρ, sr, p⟩ => ?_
  refine one sr stb_O p fun x a ρ1 F1 H1 s1 g1 r1 q1 => ?_
  refine ⟨F1, ρ1, s1, q1.part fun l ρ2 F2 H2 _ e2 q2 g2 s2 r2 => ?_⟩
  subst r2
  have q2 := q2.on stb_O g2
  refine ⟨F2, ρ2, s2, q2.part fun h ρ3 F3 H3 _ e3 q3 g3 s3 r3 => ?_⟩
  subst r3
  have q3 := q3.on stb_O g3
  obtain ⟨o, eo, q⟩ := lift_some q3
  cases ea : res1 ρ3 a with
  | none => rw [ea] at eo; cases eo
  | some d =>
    rw [ea] at eo
    have vw := rA.view (ρ0 := ρ) (H0 := H) s3 (rA.mono (ρ' := ρ3) (ρ0' := ρ) (H0' := H) (g2.trans g3).ext r1) ea
    rw [show X.K = C.K.fr from congrArg Kw.fr hK]
    cases d with
    | list ds =>
      cases eo
      obtain ⟨p, vs, rfl, h1, h2⟩ := vw
      exact .inl ⟨p, vs, rfl, SqL.of h1, fun p hp => Alloc.post s3 (.lst hp (h2.cut _ _)) q⟩
    | tuple ds =>
      cases eo
      have vw' : DV C.K F3 x (.tuple ds) := vw
      cases vw' with
      | tup h1 h2 =>
        refine .inr (.inl ⟨_, _, rfl, s3.sub.sqT h1, fun z => ?_, fun _ p hp => Alloc.post s3 (.tup hp (h2.cut _ _)) q⟩)
        rw [h2.len] at z
        rw [cutD_whole z] at q
        exact Alloc.post s3 (.asis (.tup h1 h2)) q
    | str z =>
      simp only [gSl, Option.bind_eq_bind, Option.bind_some] at eo
      split at eo <;> cases eo
      rename_i hz
      cases vw
      exact .inr (.inr ⟨z, rfl, hz, Alloc.post s3 (.asis (.str _)) q⟩)
    | _ => cases eo
def mScr (i : Nat) (ml mh : M (Option Int)) : M OD := fun ρ => match ρ[i]? with
  | some (some (.sc ns)) => (ml.bind fun l => mh.bind fun h => M.ret (.ol (cutD (ns.map .int) l h))) ρ
  | _ => .bad
theorem dvs_ints {K : Kw} {H : Hp} : ∀ ns : List Int, DVs K H (ns.map V.int) (ns.map .int)
  | [] => .nil
  | n :: ns => .cons (.int n) (dvs_ints ns)
theorem o_scr {i : Nat} {lo hi : Option Expr} {ml mh : M (Option Int)} (ha : PE X a (tVar i)) (hl : PO X lo (tPt C ml)) (hh : PO X hi (tPt C mh)) (hK : X.KW = C.K := by rfl) :
    PE X (.Subscript a (.Slice lo hi none p2) pos) (tO C (mScr i ml mh)) := by
  refine (pe_slice sl_list ha hl hh).imp fun σ H Q ⟨F, ρ, sr, p⟩ => ?_
  unfold mScr at p
  cases q : ρ[i]? with
  | none => rw [q] at p; exact p.elim
  | some o =>
    rw [q] at p
    cases o with
    | none => exact p.elim
    | some o =>
      cases o with
      | sc ns =>
        obtain ⟨v, hv, a, rfl, hs⟩ := sr.sl i _ q
        refine ⟨_, hv, F, ρ, sr, p.part fun l ρ1 F1 H1 _ e1 q1 g1 s1 r1 => ?_⟩
        subst r1
        have q1 := q1.on stb_O g1
        refine ⟨F1, ρ1, s1, q1.part fun h ρ2 F2 H2 _ e2 q2 g2 s2 r2 => ?_⟩
        subst r2
        have q2 := q2.on stb_O g2
        rw [show X.K = C.K.fr from congrArg Kw.fr hK]
        exact ⟨a, _, rfl, s2.sub.seq ((g1.trans g2).ext.seq hs), fun p hp => Alloc.post s2 (.lst hp ((dvs_ints (K := C.K) (H := F2) ns).cut _ _)) q2⟩
      | _ => exact p.elim
def gLen : List PyData → Option OD
  | [.list ds] => some (.sh (.int ds.length))
  | [.tuple ds] => some (.sh (.int ds.length))
  | [.str z] => if z.length ≤ sizeLine then some (.sh (.int z.length)) else none
  | _ => none
theorem co_len : CallO X (.builtin "len") gLen := callO_of call_len fun F H xs ds o Q sub vw e q => by
  cases vw with
  | nil => cases e
  | cons h t =>
    cases t with
    | cons _ _ => rename_i d _ _ _ _ _ _; cases d <;> cases e
    | nil =>
      rename_i x d
      cases d with
      | list ds =>
        cases e
        obtain ⟨p, vs, rfl, h1, h2⟩ := h
        exact ⟨_, _, rfl, .inl ⟨vs, SqL.of h1, rfl⟩, by rw [h2.len]; exact q _ _ _ (.asis (.int _))⟩
      | tuple ds =>
        cases e
        have h' : DV X.KW F x (.tuple ds) := h
        cases h' with
        | tup h1 h2 => exact ⟨_, _, rfl, .inr ⟨_, sub.sqT h1, rfl⟩, by rw [h2.len]; exact q _ _ _ (.asis (.int _))⟩
      | str z =>
        simp only [gLen] at e
        split at e <;> cases e
        rename_i hz
        cases h
        exact ⟨_, _, rfl, ⟨hz, rfl⟩, q _ _ _ (.asis (.int _))⟩
      | _ => cases e
def gList : List PyData → Option OD
  | [.list ds] => some (.ol ds)
  | [.tuple ds] => some (.ol ds)
  | _ => none
theorem co_list : CallO X (.type "list") gList := callO_of call_list_of fun F H xs ds o Q sub vw e q => by
  cases vw with
  | nil => cases e
  | cons h t =>
    cases t with
    | cons _ _ => rename_i d _ _ _ _ _ _; cases d <;> cases e
    | nil =>
      rename_i x d
      cases d with
      | list ds =>
        cases e
        obtain ⟨p, vs, rfl, h1, h2⟩ := h
        exact ⟨_, _, rfl, .inl (SqL.of h1), fun p hp => q _ _ _ (.lst hp h2)⟩
      | tuple ds =>
        cases e
        have h' : DV X.KW F x (.tuple ds) := h
        cases h' with
        | tup h1 h2 => exact ⟨_, _, rfl, .inr (sub.sqT h1), fun p hp => q _ _ _ (.lst hp h2)⟩
      | _ => cases e
def gTuple : List PyData → Option OD
  | [.list ds] => some (.sh (.tuple ds))
  | [.tuple ds] => some (.sh (.tuple ds))
  | _ => none
theorem co_tuple : CallO X (.type "tuple") gTuple := callO_of call_tuple_of fun F H xs ds o Q sub vw e q => by
  cases vw with
  | nil => cases e
  | cons h t =>
    cases t with
    | cons _ _ => rename_i d _ _ _ _ _ _; cases d <;> cases e
    | nil =>
      rename_i x d
      cases d with
      | list ds =>
        cases e
        obtain ⟨p, vs, rfl, h1, h2⟩ := h
        exact ⟨_, _, rfl, .inl ⟨SqL.of h1, fun p hp => q _ _ _ (.tup hp h2)⟩⟩
      | tuple ds =>
        cases e
        have h' : DV X.KW F x (.tuple ds) := h
        cases h' with
        | tup h1 h2 => exact ⟨_, _, rfl, .inr ⟨sub.sqT h1, q _ _ _ (.asis (.tup h1 h2))⟩⟩
      | _ => cases e
def gRepr : List PyData → Option OD
  | [d] => if d.showable = true ∧ d.shown.length ≤ sizeLine ∧ small d = true then some (.sh (.str d.shown)) else none
  | _ => none
theorem co_repr (hg : X.A.guards = some []) (hu : X.A.units + 64 < cLine) : CallO X (.builtin "repr") gRepr := by
  intro pins s σ F H xs us ds o Q I r sub vw e q
  cases vw with
  | nil => cases e
  | cons h t =>
    cases t with
    | cons _ _ => cases e
    | nil =>
      rename_i x d
      simp only [gRepr] at e
      split at e <;> cases e
      rename_i hz
      obtain ⟨z1, z2, z3⟩ := hz
      obtain ⟨u, rfl, ru⟩ := vals1 r
      have dv := h.dv sub
      obtain ⟨as, rd⟩ := dv.reads I ru
      have hd : d.depth ≤ 60 := of_decide_eq_true z3
      have fin : ∀ s' : Shared, Inv X pins σ H s' → ∀ t, EP X pins σ Q (.str d.shown t) s' := fun s' I' t => ⟨.str d.shown, H, I', ⟨t, rfl⟩, q _ _ _ (.asis (.str _))⟩
      cases d with
      | none => cases dv; cases ru; simp only [PyData.shown] at fin; exact P.repr_of_none (fin _ (I.tok _) _)
      | bool b => cases dv; cases ru; simp only [PyData.shown] at fin; exact P.repr_of_bool (fin _ (I.tok _) _)
      | int i => cases dv; obtain ⟨t, rfl⟩ := ru; simp only [PyData.shown] at fin; exact P.repr_of_int (by simpa [PyData.showable] using z1) (fin _ (I.tok _) _)
      | str i => cases dv; obtain ⟨t, rfl⟩ := ru; simp only [PyData.shown] at fin z2; exact P.repr_of_str (fin _ (I.tok _) _) z2
      | list ds =>
        cases dv with
        | lst h1 h2 => cases ru; exact repr_of_reads' rd z1 (fun z => by have := (DV.lst h1 h2).noDict; rw [this] at z; cases z) hg (by omega) (fun _ _ z => z) (fun h' u tk k => fin _ (I.kept k) u) z2
      | tuple ds =>
        cases dv with
        | tup h1 h2 => cases ru; exact repr_of_reads' rd z1 (fun z => by have := (DV.tup h1 h2).noDict; rw [this] at z; cases z) hg (by omega) (fun _ _ z => z) (fun h' u tk k => fin _ (I.kept k) u) z2
      | dict _ => cases dv
end
end Eg
namespace Eg
open PySem L2 PySem.W PySem.SeqAt PySem.Spec PyProof.Rows
section
variable {A : Around} {s : Shared} {prog : Program} {w : World} {E : Value → Shared → Prop}
theorem coll_tup {t : Addr} {vs : List Value} {Q : List Value → Shared → Prop} (ht : IsTup s.heap t vs.toArray) (hz : vs.length ≤ sizeLine)
    (h : Q vs { s with heap := (s.heap.push (seqObj "list" #[] 0)).update s.heap.objs.size (Obj.mapSeq (· ++ vs.toArray)) }) : wpAny (model prog w) A (collect (.ref t)) Q E s := by
  obtain ⟨ob, hob, hcl, nn, hdt⟩ := id ht
  unfold collect
  refine wpAny_bind (wpAny_runValue (codeAny_builtin PyProof.Rows.entry_proto_collect' ?_))
  show wpAny _ _ (do again (.builtin "list.__iadd__" ⟨[← newList [], .ref t], []⟩)) _ _ s
  refine wpAny_bind (wpAny_newList (wpAny_pure ⟨Code.quiet_builtin _ (by decide +kernel), codeAny_builtin PyProof.Rows.entry_list_iadd' ?_⟩))
  have hob' : (s.heap.push (seqObj "list" #[] 0)).get? t = some ob := Heap.get?_push_of_some _ hob
  show wpAny _ _ (Builtin.List.listExtendWith (.ref s.heap.objs.size) (.ref t) (.ref s.heap.objs.size)) _ _ { s with heap := s.heap.push (seqObj "list" #[] 0) }
  delta Builtin.List.listExtendWith
  refine wpAny_bind (wpAny_typeOf (T := "tuple") ⟨ob, hob', hcl⟩ ?_)
  rw [if_pos (by rw [show (Value.type "tuple" == Value.type "tuple") = true by rfl]; simp)]
  refine wpAny_bind (PyProof.Rows.listItems_at hob' hdt (wpAny_bind (PyProof.Rows.listItems_at (xs := #[]) (n := 0) (Heap.get?_push_size _ rfl) rfl ?_)))
  rw [if_neg (by simp)]
  refine wpAny_bind (PyProof.Rows.listUpdate_at (xs := #[]) (n := 0) (Heap.get?_push_size _ rfl) rfl (wpAny_pure ?_) (Nat.zero_le _) (by show (#[] ++ vs.toArray).size ≤ sizeLine + 1; simp only [Array.size_append, List.size_toArray, List.length_nil]; omega))
  show wpAny _ A (load s.heap.objs.size >>= _) Q E _
  refine wpAny_bind (wpAny_load (PyProof.Rows.get?_update_seq (Heap.get?_push_size _ rfl) _) ?_)
  have e0 : ((#[] : Array Value) ++ vs.toArray).toList = vs := by simp
  show wpAny (model prog w) A (pure ((#[] : Array Value) ++ vs.toArray).toList) Q E _
  rw [e0]
  exact wpAny_pure h
theorem sorted_tupv {κ : PyProof.Rows.KeyKind} {t : Addr} {vs : List Value} {Q : Value → Shared → Prop} (ht : IsTup s.heap t vs.toArray) (S : SortsAt prog w A.in1.in1 { s with heap := sortingHeap (copyHeap s.heap vs) (s.heap.objs.size + 1) vs } κ vs) (hz : vs.length ≤ sizeLine)
    (h : Q (.ref (s.heap.objs.size + 1)) { s with heap := sortedAll s.heap vs (sortVals κ false vs vs).toArray }) : wpAny (model prog w) A (call (.builtin "sorted") [.ref t]) Q E s := by
  have sz : ((s.heap.push (seqObj "list" #[] 0)).update s.heap.objs.size (Obj.mapSeq (· ++ vs.toArray))).objs.size = s.heap.objs.size + 1 := by rw [Heap.size_update, PyProof.Rows.size_push']
  refine call_function_entry_kw kind_sorted plain_sorted entry_sorted (args_sorted1 _) ?_
  unfold Builtin.«sorted»
  refine wpAny_bind (m := checkCount "sorted" 1 1 _) (wpAny_pure (wpAny_bind (coll_tup ht hz (wpAny_bind (wpAny_newList ?_ hz)))))
  show wpAny (model prog w) _ _ _ _ { s with heap := copyHeap s.heap vs }
  rw [sz]
  refine wpAny_bind (wpAny_holding (wpAny_call_entry_kw slot_list_sort ⟨_, copyHeap_at s.heap vs, rfl⟩ entry_list_sort ?go (args_list_sort _)))
  case go =>
    show wpAny (model prog w) A.in1.in1 (Builtin.«list.sort» ⟨[.ref (s.heap.objs.size + 1)], []⟩) _ _ _
    exact list_sort_vals (s := { s with heap := copyHeap s.heap vs }) (copyHeap_at s.heap vs) S hz ⟨_, rfl, wpAny_pure ⟨_, rfl, h⟩⟩
end
def alikeB (ds : List PyData) : Bool := ds.all fun d => ds.all fun e => alike d e
def isTup1 : PyData → Bool
  | .tuple (_ :: _) => true
  | _ => false
def noTup : PyData → Bool
  | .tuple _ => false
  | .none => false
  | _ => true
def sortOk (ds : List PyData) : Bool := alikeB ds && (ds.all isTup1 || ds.all noTup) && ds.all small && decide (ds.length ≤ sizeLine)
def sortD (ds : List PyData) : List PyData := ds.mergeSort (dataLe false id)
def gSorted : List PyData → Option OD
  | [.list ds] => if sortOk ds = true then some (.ol (sortD ds)) else none
  | [.tuple ds] => if sortOk ds = true then some (.ol (sortD ds)) else none
  | _ => none
theorem sortOk_at {ds : List PyData} (h : sortOk ds = true) : AllAlike ds ∧ Sortable ds ∧ (∀ d, d ∈ ds → d.depth ≤ 60) ∧ ds.length ≤ sizeLine := by
  unfold sortOk at h
  simp only [Bool.and_eq_true, Bool.or_eq_true, List.all_eq_true, decide_eq_true_eq, alikeB] at h
  obtain ⟨⟨⟨h1, h2⟩, h3⟩, h4⟩ := h
  refine ⟨fun d hd d' hd' => h1 d hd d' hd', ?_, fun d hd => of_decide_eq_true (h3 d hd), h4⟩
  rcases h2 with h2 | h2
  · refine .inl fun d hd => ?_
    have := h2 d hd
    cases d with
    | tuple xs => cases xs with
      | nil => cases this
      | cons x r => exact ⟨x, r, rfl⟩
    | _ => cases this
  · refine .inr fun d hd => ?_
    have := h2 d hd
    cases d <;> first | (cases this; done) | exact ⟨fun z => (by cases z), fun _ z => by cases z⟩
section
variable [Tbs] {X : Cx} {K : Kw} {pins : List (Addr × Obj)} {σ : L2.St} {H : Hp} {s : Shared}
theorem dvs_each {F : Hp} : ∀ {vs : List V} {us : List Value} {ds : List PyData}, DVs K F vs ds → Vals vs us → EachIs (fun v d => ∃ x, RelV x v ∧ DV K F x d) us ds
  | _, _, _, .nil, .nil => .nil
  | _, _, _, .cons h t, .cons r q => .cons ⟨_, r, h⟩ (dvs_each t q)
theorem each_dvs {F : Hp} : ∀ {us : List Value} {ds : List PyData}, EachIs (fun v d => ∃ x, RelV x v ∧ DV K F x d) us ds → ∃ vs, DVs K F vs ds ∧ Vals vs us
  | _, _, .nil => ⟨[], .nil, .nil⟩
  | _, _, .cons ⟨x, r, h⟩ t => by
    obtain ⟨vs, h2, r2⟩ := each_dvs t
    exact ⟨x :: vs, .cons h h2, .cons r r2⟩
theorem co_sorted (hu : X.A.units + 64 < cLine) : CallO X (.builtin "sorted") gSorted := by
  intro pins s σ F H xs us ds o Q I r sub vw e q
  cases vw with
  | nil => cases e
  | cons h t =>
    cases t with
    | cons _ _ => rename_i d _ _ _ _ _ _; cases d <;> cases e
    | nil =>
      rename_i x d
      obtain ⟨u, rfl, ru⟩ := vals1 r
      have core : ∀ (es : List PyData) (vs : List V) (its : List Value), sortOk es = true → some (OD.ol (sortD es)) = some o → DVs X.KW F vs es → Vals vs its →
          (∀ out : List Value, out.length = es.length → EachIs (fun v d => ∃ x, RelV x v ∧ DV X.KW F x d) out (sortD es) → EP X pins σ Q (.ref (s.heap.objs.size + 1)) { s with heap := sortedAll s.heap its out.toArray }) ∧
          EachIs (fun v d => ∃ x, RelV x v ∧ DV X.KW F x d) its es ∧ EachIs (fun v d => ∃ as, Reads s.heap v d as) its es := fun es vs its ok eo dv rv => by
        have ea := dvs_each dv rv
        refine ⟨fun out hl eo' => ?_, ea, ea.mono fun v d ⟨x, r, h⟩ => (DV.mono sub h).reads I r⟩
        obtain ⟨ws, d2, r2⟩ := each_dvs eo'
        obtain ⟨ep, he'⟩ := PyProof.Rows.sortedAll_at s.heap its out.toArray
        obtain ⟨_, _, _, z4⟩ := sortOk_at ok
        have hn : H (s.heap.objs.size + 1) = none := I.hok.fresh (Nat.le_succ _)
        cases eo
        exact ⟨.ref _, upd H (s.heap.objs.size + 1) (.lst ws), I.laid (t' := s.toks) (fun _ _ => PyProof.Rows.sortedAll_old) (Nat.le_succ _) ⟨by rw [r2.length, hl]; exact z4, out, ep, r2, he'⟩, rfl, q _ _ _ (.lst hn d2)⟩
      cases d with
      | list es =>
        simp only [gSorted] at e
        split at e <;> try cases e
        rename_i ok
        obtain ⟨p, vs, rfl, h1, h2⟩ := h
        cases ru
        obtain ⟨its, rv, pl, _⟩ := I.list (SqL.of h1)
        obtain ⟨c1, c2, c3⟩ := core es vs its ok rfl h2 rv
        obtain ⟨z1, z2, z3, z4⟩ := sortOk_at ok
        exact sorted_data (enc := id) (bs := es) pl.isList c2 c3 (by simpa using z1) (by simpa using z2) z4 (fun b hb => by have := z3 b hb; show X.A.units + 2 + b.depth < cLine; omega) c1
      | tuple es =>
        simp only [gSorted] at e
        split at e <;> try cases e
        rename_i ok
        have h' : DV X.KW F x (.tuple es) := h
        cases h' with
        | tup h1 h2 =>
          cases ru
          obtain ⟨its, rv, pl, _⟩ := I.tuple (sub.sqT h1)
          obtain ⟨c1, c2, c3⟩ := core es _ its ok rfl h2 rv
          obtain ⟨z1, z2, z3, z4⟩ := sortOk_at ok
          have er' : EachIs (fun v d => ∃ as, Reads (sortingHeap (copyHeap s.heap its) (s.heap.objs.size + 1) its) v d as) its es := c3.mono fun _ _ ⟨as, r⟩ => ⟨as, PyProof.Rows.Reads.keeps (fun _ _ => sorting_copy_old) r⟩
          refine sorted_tupv pl (SortsAt.data (s := { s with heap := sortingHeap (copyHeap s.heap its) (s.heap.objs.size + 1) its }) er' z1 z2 fun d hd => ?_) (by rw [← rv.length, h2.len]; exact z4) ?_
          · have := z3 d hd
            show X.A.units + 1 + 1 + d.depth < cLine
            omega
          · refine c1 _ ?_ ?_
            · rw [sortVals_length false rfl, ← rv.length, h2.len]
            · have := sortVals_data (enc := id) (bs := es) false c2 (by simpa using er') (by simpa using z1)
              simpa [sortD] using this
      | _ => cases e
end
end Eg
namespace Eg
open PySem L2 PySem.W PySem.SeqAt PySem.Spec PyProof.Rows
section
variable {A : Around} {s : Shared} {prog : Program} {w : World} {E : Value → Shared → Prop}
theorem best1 (bt : Nat → Nat → Bool) : argBest bt 1 = if bt 1 0 = true then 1 else 0 := rfl
theorem alike_two {x y : PyData} (h1 : alike y x = true) (hx : x ≠ .none) (hy : y ≠ .none) (a1 : alike x x = true) (a2 : alike y y = true) (a3 : alike x y = true) : AlikeAll [x, y] := by
  refine ⟨fun d hd e he => ?_, fun d hd => ?_⟩
  · simp only [List.mem_cons, List.not_mem_nil, or_false] at hd he
    rcases hd with rfl | rfl <;> rcases he with rfl | rfl <;> assumption
  · simp only [List.mem_cons, List.not_mem_nil, or_false] at hd
    rcases hd with rfl | rfl <;> assumption
theorem min2D {a b : Value} {x y : PyData} {as bs : List Addr} {Q : Value → Shared → Prop} (hh : A.handled = none) (ra : Reads s.heap a x as) (rb : Reads s.heap b y bs) (al : AlikeAll [x, y]) (hu : A.units + 1 + PyData.depthAll [x, y] < cLine)
    (h : ∀ h' tk, (∀ c o, s.heap.get? c = some o → h'.get? c = some o) → Q (if dataLt y x = true then b else a) { s with heap := h', toks := tk }) : wpAny (model prog w) A (call (.builtin "min") [a, b]) Q E s := by
  have nm : (toString "min" ++ toString ".loop" : String) = "min.loop" := by decide
  refine call_function_tree (F.kind_min) F.plain_min F.entry_min (F.args_min2 _ _) ?_
  show wpAny _ A.in1 (Builtin.Builtins.bindParams "min" ["key", "default"] 0 ⟨[], []⟩ >>= fun _ => _) _ _ s
  refine wpAny_bind (wpAny_of_eq (show Builtin.Builtins.bindParams "min" ["key", "default"] 0 ⟨[], []⟩ = pure [none, none] from rfl) (wpAny_bind (wpAny_newObj_type ?_)))
  generalize hS : ({ s with heap := s.heap.push { cls := .type "tuple", data := .seq [a, b].toArray } } : Shared) = s1
  have k1 : ∀ c o, s.heap.get? c = some o → s1.heap.get? c = some o := fun c o e => by rw [← hS]; exact Heap.get?_push_of_some _ e
  have hT : s1.heap.IsTuple s.heap.objs.size #[a, b] := by rw [← hS]; exact ⟨_, Heap.get?_push_size _ rfl, rfl, 0, rfl⟩
  have rd : ReadsAll s1.heap (#[a, b] : Array Value).toList [x, y] _ := .cons (Reads.keeps k1 ra) (.cons (Reads.keeps k1 rb) .nil)
  refine wpAny_bind (iter_tupleW (A := A.in1) hh hT fun s2 e2 W st hfp hw hk => ?_)
  refine wpAny_bind (wpAny_newObj_type ?_)
  rw [nm]
  refine wpAny_pure ⟨plainId_quiet F.plain_min_loop _, codeAny_min_loop_firstH W s1.heap hw _ (cmpIn_lt (A := A.in1) rd al (by show A.units + 1 + _ < _; exact hu)) s2.heap.objs.size (fun z => Nat.lt_irrefl _ (hfp _ z)) (fresh_in hk) _ (by simp)
    (fun c o e => Heap.get?_push_of_some _ (hk c o e)) (W.frame 0 s2 _ s2.toks st (Nat.le_refl _) fun c _ o e => Heap.get?_push_of_some _ e) (Heap.get?_push_size _ rfl) fun v s' hP hm => ?_⟩
  obtain ⟨h', tk, rfl, hk'⟩ := moved_old e2 rfl (Moved.drop_new (tk := s2.toks) hm (Nat.le_refl _))
  have hv : v = if dataLt y x = true then b else a := by
    have hP' : (#[a, b] : Array Value)[argBest (fun i j => dataLt ([x, y].getD i .none) ([x, y].getD j .none)) 1]? = some v := hP
    rw [best1] at hP'
    simp only [List.getD_cons_zero, List.getD_cons_succ] at hP'
    cases q : dataLt y x with
    | true => rw [q] at hP'; simpa using hP'.symm
    | false => rw [q] at hP'; simpa using hP'.symm
  rw [hv]
  have := h h' tk (fun c o e => hk' c o (k1 c o e))
  rw [← hS]
  exact this
theorem max2D {a b : Value} {x y : PyData} {as bs : List Addr} {Q : Value → Shared → Prop} (hh : A.handled = none) (ra : Reads s.heap a x as) (rb : Reads s.heap b y bs) (al : AlikeAll [x, y]) (hu : A.units + 1 + PyData.depthAll [x, y] < cLine)
    (h : ∀ h' tk, (∀ c o, s.heap.get? c = some o → h'.get? c = some o) → Q (if dataLt x y = true then b else a) { s with heap := h', toks := tk }) : wpAny (model prog w) A (call (.builtin "max") [a, b]) Q E s := by
  have nm : (toString "max" ++ toString ".loop" : String) = "max.loop" := by decide
  refine call_function_tree (F.kind_max) F.plain_max F.entry_max (F.args_max2 _ _) ?_
  show wpAny _ A.in1 (Builtin.Builtins.bindParams "max" ["key", "default"] 0 ⟨[], []⟩ >>= fun _ => _) _ _ s
  refine wpAny_bind (wpAny_of_eq (show Builtin.Builtins.bindParams "max" ["key", "default"] 0 ⟨[], []⟩ = pure [none, none] from rfl) (wpAny_bind (wpAny_newObj_type ?_)))
  generalize hS : ({ s with heap := s.heap.push { cls := .type "tuple", data := .seq [a, b].toArray } } : Shared) = s1
  have k1 : ∀ c o, s.heap.get? c = some o → s1.heap.get? c = some o := fun c o e => by rw [← hS]; exact Heap.get?_push_of_some _ e
  have hT : s1.heap.IsTuple s.heap.objs.size #[a, b] := by rw [← hS]; exact ⟨_, Heap.get?_push_size _ rfl, rfl, 0, rfl⟩
  have rd : ReadsAll s1.heap (#[a, b] : Array Value).toList [x, y] _ := .cons (Reads.keeps k1 ra) (.cons (Reads.keeps k1 rb) .nil)
  refine wpAny_bind (iter_tupleW (A := A.in1) hh hT fun s2 e2 W st hfp hw hk => ?_)
  refine wpAny_bind (wpAny_newObj_type ?_)
  rw [nm]
  refine wpAny_pure ⟨plainId_quiet F.plain_max_loop _, codeAny_max_loop_firstH W s1.heap hw _ (cmpIn_gt (A := A.in1) rd al (by show A.units + 1 + _ < _; exact hu)) s2.heap.objs.size (fun z => Nat.lt_irrefl _ (hfp _ z)) (fresh_in hk) _ (by simp)
    (fun c o e => Heap.get?_push_of_some _ (hk c o e)) (W.frame 0 s2 _ s2.toks st (Nat.le_refl _) fun c _ o e => Heap.get?_push_of_some _ e) (Heap.get?_push_size _ rfl) fun v s' hP hm => ?_⟩
  obtain ⟨h', tk, rfl, hk'⟩ := moved_old e2 rfl (Moved.drop_new (tk := s2.toks) hm (Nat.le_refl _))
  have hv : v = if dataLt x y = true then b else a := by
    have hP' : (#[a, b] : Array Value)[argBest (fun i j => dataLt ([x, y].getD j .none) ([x, y].getD i .none)) 1]? = some v := hP
    rw [best1] at hP'
    simp only [List.getD_cons_zero, List.getD_cons_succ] at hP'
    cases q : dataLt x y with
    | true => rw [q] at hP'; simpa using hP'.symm
    | false => rw [q] at hP'; simpa using hP'.symm
  rw [hv]
  have := h h' tk (fun c o e => hk' c o (k1 c o e))
  rw [← hS]
  exact this
end
def pairOk (x y : PyData) : Bool := alike x y && alike y x && alike x x && alike y y && !isNon x && !isNon y && small x && small y
def isLst : PyData → Bool
  | .list _ => true
  | _ => false
def gMin : List PyData → Option OD
  | [x, y] => if pairOk x y = true ∧ isLst x = false ∧ isLst y = false then some (.sh (if dataLt y x = true then y else x)) else none
  | _ => none
def gMax : List PyData → Option OD
  | [x, y] => if pairOk x y = true ∧ isLst x = false ∧ isLst y = false then some (.sh (if dataLt x y = true then y else x)) else none
  | _ => none
theorem pairOk_at {x y : PyData} (h : pairOk x y = true) : AlikeAll [x, y] ∧ PyData.depthAll [x, y] ≤ 60 := by
  unfold pairOk at h
  simp only [Bool.and_eq_true, Bool.not_eq_true'] at h
  obtain ⟨⟨⟨⟨⟨⟨⟨h1, h2⟩, h3⟩, h4⟩, h5⟩, h6⟩, h7⟩, h8⟩ := h
  have n5 : x ≠ .none := fun z => by subst z; cases h5
  have n6 : y ≠ .none := fun z => by subst z; cases h6
  refine ⟨alike_two h2 n5 n6 h3 h4 h1, ?_⟩
  have d1 : x.depth ≤ 60 := of_decide_eq_true h7
  have d2 : y.depth ≤ 60 := of_decide_eq_true h8
  simp only [PyData.depthAll]
  omega
section
variable [Tbs] {X : Cx}
theorem Vw.noLst {K : Kw} {F H : Hp} {v : V} {d : PyData} (h : Vw K F H v d) (n : isLst d = false) : DV K F v d := by
  cases d with
  | list _ => cases n
  | _ => exact h
theorem co_min (hc : X.calm = true) (hu : X.A.units + 64 < cLine) : CallO X (.builtin "min") gMin := by
  intro pins s σ F H xs us ds o Q I r sub vw e q
  match ds, vw, e with
  | [x, y], .cons (v := v1) h1 (.cons (v := v2) h2 .nil), e =>
    simp only [gMin] at e
    split at e <;> cases e
    rename_i hz
    obtain ⟨z1, z2, z3⟩ := hz
    obtain ⟨al, dp⟩ := pairOk_at z1
    obtain ⟨u1, u2, rfl, r1, r2⟩ := vals2 r
    have d1 := h1.noLst z2
    have d2 := h2.noLst z3
    obtain ⟨as, rd1⟩ := (DV.mono sub d1).reads I r1
    obtain ⟨bs, rd2⟩ := (DV.mono sub d2).reads I r2
    refine min2D (I.ok.hd hc) rd1 rd2 al (by omega) fun h' tk k => ?_
    cases q0 : dataLt y x with
    | true => rw [q0] at q; exact ⟨v2, H, I.kept k, r2, q _ _ _ (.asis d2)⟩
    | false => rw [q0] at q; exact ⟨v1, H, I.kept k, r1, q _ _ _ (.asis d1)⟩
theorem co_max (hc : X.calm = true) (hu : X.A.units + 64 < cLine) : CallO X (.builtin "max") gMax := by
  intro pins s σ F H xs us ds o Q I r sub vw e q
  match ds, vw, e with
  | [x, y], .cons (v := v1) h1 (.cons (v := v2) h2 .nil), e =>
    simp only [gMax] at e
    split at e <;> cases e
    rename_i hz
    obtain ⟨z1, z2, z3⟩ := hz
    obtain ⟨al, dp⟩ := pairOk_at z1
    obtain ⟨u1, u2, rfl, r1, r2⟩ := vals2 r
    have d1 := h1.noLst z2
    have d2 := h2.noLst z3
    obtain ⟨as, rd1⟩ := (DV.mono sub d1).reads I r1
    obtain ⟨bs, rd2⟩ := (DV.mono sub d2).reads I r2
    refine max2D (I.ok.hd hc) rd1 rd2 al (by omega) fun h' tk k => ?_
    cases q0 : dataLt x y with
    | true => rw [q0] at q; exact ⟨v2, H, I.kept k, r2, q _ _ _ (.asis d2)⟩
    | false => rw [q0] at q; exact ⟨v1, H, I.kept k, r1, q _ _ _ (.asis d1)⟩
end
end Eg
namespace Eg
open PySem L2 PySem.W PySem.SeqAt
section
variable [Tbs] {X : Cx} {C : Ct} {e a b c : Expr} {es : List Expr} {pos apos cpos : Pos}
theorem _root_.L2.PT.imp {t t' : TT} (h : PT X e t) (i : ∀ σ H Q, t' σ H Q → t σ H Q) : PT X e t' := ⟨fun pins s σ H Q I q => h.run pins s σ H Q I (i _ _ _ q)⟩
theorem _root_.L2.PW.imp {t t' : TT} (h : PW X e t) (i : ∀ σ H Q, t' σ H Q → t σ H Q) : PW X e t' := ⟨fun w pins s σ H Q I q => h.run w pins s σ H Q I (i _ _ _ q)⟩
def asBool : PyData → M Bool
  | .bool b => M.ret b
  | _ => M.bad
theorem asBool_post {β : Type} {σ : St} {ρ ρ0 : Rho} {F H : Hp} {Q : Bool → Hp → Prop} {d : PyData} {v : V} {K : Kw} (sr : SR C.K F H σ ρ) (h : DV K F v d) (p : PostE (β := Bool) C (fun _ _ _ _ _ _ v d => v = d) σ ρ F H Q (asBool d ρ)) : ∃ k, v = .bl k ∧ Q k H := by
  cases d with
  | bool b => cases h; exact ⟨b, rfl, p F H b Grow.refl sr rfl⟩
  | _ => exact p.elim
def rOp (K : Kw) (g : PyData → PyData → Option PyData) : R2 := fun x y H Q => ∃ dx dy d, DV K H x dx ∧ DV K H y dy ∧ g dx dy = some d ∧ ∀ w, atom d = some w → Q w H
theorem opR_of {f : Value → Value → Sem Value} {g : PyData → PyData → Option PyData} (ho : OpD X f g) : OpR X f (rOp X.KW g) :=
  fun pins s σ H x y v u Q I rx ry ⟨dx, dy, d, h1, h2, e, q⟩ => ho pins s σ H x y v u dx dy d Q I rx ry h1 h2 e q
theorem t_cmp {op : CmpOp} {g : PyData → PyData → Option PyData} {ma mb : M Arg} (ho : OpD X (compareOp op) g) (ha : PE X a (tA C ma)) (hb : PE X b (tA C mb)) (hK : X.KW = C.K := by rfl)
    (hm : behindInMarks op b = false := by first | exact nobehind _ (by decide) (by decide) | rfl) : PT X (.Compare a [op] [b] pos) (tT C ((m2 g ma mb).bind asBool)) := by
  refine (pt_cmpR (opR_of ho) ha hb hm).imp fun σ H Q ⟨F, ρ, sr, p⟩ => ?_
  have p' : PostE C (rD C.K) σ ρ F H (fun x H' => ∃ k, x = V.bl k ∧ Q k H') (m2 g ma mb ρ) := p.part fun d ρ1 F1 H1 x e1 q1 g1 s1 r1 => asBool_post (β := Bool) (ρ0 := ρ) s1 r1 (q1.on stb_T g1)
  exact two sr stb_D p' fun x y dx dy d ρ2 F2 H2 s2 r1 r2 e q => by
    rw [hK]
    exact ⟨dx, dy, d, r1.dv s2.sub, r2.dv s2.sub, e, fun w hw => q F2 H2 w Grow.refl s2 (atom_dv hw)⟩
def mAnd (ma mb : M Bool) : M Bool := ma.bind fun b => if b = true then mb else M.ret false
def mOr (ma mb : M Bool) : M Bool := ma.bind fun b => if b = true then M.ret true else mb
theorem w_one1 {ma : M Bool} (ha : PT X a (tT C ma)) : PW X (.BoolOp .And [a] pos) (tT C ma) := pw_and1 ha
theorem w_one2 {ma : M Bool} (ha : PT X a (tT C ma)) : PW X (.BoolOp .Or [a] pos) (tT C ma) := pw_or1 ha
theorem w_and {ma mb : M Bool} (ha : PT X a (tT C ma)) (hb : PW X (.BoolOp .And (b :: es) pos) (tT C mb)) : PW X (.BoolOp .And (a :: b :: es) pos) (tT C (mAnd ma mb)) :=
  (pw_and ha hb).imp fun σ H Q ⟨F, ρ, sr, p⟩ => ⟨F, ρ, sr, p.part fun k ρ1 F1 H1 x e1 q1 g1 s1 r1 => by
    subst r1
    have q1 := q1.on stb_T g1
    cases x with
    | true => exact ⟨F1, ρ1, s1, q1⟩
    | false => exact q1 F1 H1 false Grow.refl s1 rfl⟩
theorem w_or {ma mb : M Bool} (ha : PT X a (tT C ma)) (hb : PW X (.BoolOp .Or (b :: es) pos) (tT C mb)) : PW X (.BoolOp .Or (a :: b :: es) pos) (tT C (mOr ma mb)) :=
  (pw_or ha hb).imp fun σ H Q ⟨F, ρ, sr, p⟩ => ⟨F, ρ, sr, p.part fun k ρ1 F1 H1 x e1 q1 g1 s1 r1 => by
    subst r1
    have q1 := q1.on stb_T g1
    cases x with
    | false => exact ⟨F1, ρ1, s1, q1⟩
    | true => exact q1 F1 H1 true Grow.refl s1 rfl⟩
theorem t_w {m : M Bool} (h : PW X e (tT C m)) : PT X e (tT C m) := h.pt
def mNot (ma : M Bool) : M Bool := ma.bind fun b => M.ret (!b)
theorem t_not {ma : M Bool} (ha : PT X a (tT C ma)) : PT X (.UnaryOp .Not a pos) (tT C (mNot ma)) :=
  (pt_not ha).imp fun σ H Q ⟨F, ρ, sr, p⟩ => ⟨F, ρ, sr, p.part fun k ρ1 F1 H1 x e1 q1 g1 s1 r1 => by subst r1; exact q1 F1 H1 _ g1 s1 rfl⟩
def mAndV (ma mb : M PyData) : M PyData := ma.bind fun d => (asBool d).bind fun b => if b = true then mb else M.ret (.bool false)
def mOrV (ma mb : M PyData) : M PyData := ma.bind fun d => (asBool d).bind fun b => if b = true then M.ret (.bool true) else mb
def mNotV (ma : M PyData) : M PyData := ma.bind fun d => (asBool d).bind fun b => M.ret (.bool (!b))
def gIsN (d : PyData) : Option PyData := some (.bool (isNon d))
def gNotN (d : PyData) : Option PyData := some (.bool (!isNon d))
theorem vw_non {K : Kw} {F H : Hp} {v : V} {d : PyData} (h : Vw K F H v d) : decide (v = .non) = isNon d := by
  cases d with
  | list ds => obtain ⟨p, vs, rfl, _, _⟩ := h; rfl
  | _ => cases h <;> rfl
theorem one1 {ma : M Arg} {g : PyData → Option PyData} {σ : St} {ρ : Rho} {F H : Hp} {Q : VK} {R : V → Hp → Prop} (sr : SR C.K F H σ ρ) (p : PostE C (rD C.K) σ ρ F H Q (m1 g ma ρ))
    (k : ∀ x dx d ρ2 F2 H2, SR C.K F2 H2 σ ρ2 → Vw C.K F2 H2 x dx → g dx = some d → PostE C (rD C.K) σ ρ2 F2 H2 Q (.ok d ρ2) → R x H2) : tA C ma σ H R :=
  one sr stb_D p fun x a ρ1 F1 H1 s1 g1 r1 q1 => by
    obtain ⟨o, eo, q⟩ := lift_some q1
    cases ea : res1 ρ1 a with
    | none => rw [ea] at eo; cases eo
    | some d => rw [ea] at eo; exact k x d o ρ1 F1 H1 s1 (rA.view (ρ0 := ρ) (H0 := H) s1 r1 ea) eo q
theorem t_notN {j pos'} {ma : M Arg} (ha : PE X a (tA C ma)) : PT X (.Compare a [.IsNot] [.Constant .none j pos'] pos) (tT C ((m1 gNotN ma).bind asBool)) :=
  (pt_cmp (pc_notN ha) rfl).imp fun σ H Q ⟨F, ρ, sr, p⟩ => by
    have p' : PostE C (rD C.K) σ ρ F H (fun x H' => ∃ k, x = V.bl k ∧ Q k H') (m1 gNotN ma ρ) := p.part fun d ρ1 F1 H1 x e1 q1 g1 s1 r1 => asBool_post (β := Bool) (ρ0 := ρ) s1 r1 (q1.on stb_T g1)
    exact one1 sr p' fun x dx d ρ2 F2 H2 s2 r e q => by cases e; rw [vw_non r]; exact q F2 H2 _ Grow.refl s2 (.bl _)
def mIf {γ : Type} (mt : M Bool) (ma mb : M γ) : M γ := mt.bind fun b => if b = true then ma else mb
theorem o_if {mt : M Bool} {ma mb : M OD} (hc : PT X c (tT C mt)) (ha : PE X a (tO C ma)) (hb : PE X b (tO C mb)) : PE X (.IfExp c a b pos) (tO C (mIf mt ma mb)) :=
  (pe_ifExp hc ha hb).imp fun σ H Q ⟨F, ρ, sr, p⟩ => ⟨F, ρ, sr, p.part fun k ρ1 F1 H1 x e1 q1 g1 s1 r1 => by
    subst r1
    have q1 := q1.on stb_O g1
    cases x with
    | true => exact ⟨F1, ρ1, s1, q1⟩
    | false => exact ⟨F1, ρ1, s1, q1⟩⟩
theorem SR.write {K : Kw} {F H : Hp} {σ : St} {ρ : Rho} {i : Nat} {a : Addr} {o o' : OD} {u : HO} (s : SR K F H σ ρ) (h : ρ[i]? = some (some o)) (io : o.isO = true) (hv : σ[i]? = some (some (.ref a))) (io' : o'.isO = true) (hr : OR K F (upd H a u) (.ref a) o') :
    SR K F (upd H a u) σ (ρ.set i (some o')) ∧ Grow (own σ ρ) (own σ (ρ.set i (some o'))) F H F (upd H a u) := by
  obtain ⟨fa, ua, ha⟩ := own.at s ⟨i, o, h, io, hv⟩
  have na := own.noT s ⟨i, o, h, io, hv⟩ ha
  have hl : i < ρ.length := (List.getElem?_eq_some_iff.mp h).1
  have w := s.wipe i
  have s1 : SR K F (upd H a u) σ (ρ.set i none) := by
    refine w.on (Same.refl _) (fun b x e => by rw [upd_ne (ne_of_none e fa)]; exact s.sub b x e) (s.tb.wr ha na) fun b hb => ?_
    obtain ⟨f1, x, h1⟩ := own.at w hb
    refine ⟨f1, fun x' e _ => ?_⟩
    rw [upd_ne (fun z => own.wipeNe s h io hv (by rw [← z]; exact hb))]
    exact e
  refine ⟨?_, Grow.less (Grow.wr ⟨i, o, h, io, hv⟩) fun b hb => ?_⟩
  · have s2 := SR.put (i := i) (o := o') s1 hv hr (fun _ b e => by
      cases e
      rw [List.set_set]
      exact own.wipeNe s h io hv)
    rw [List.set_set] at s2
    exact s2
  · rcases hb.put with z | ⟨_, z⟩
    · exact (own.wipe z).1
    · exact ⟨i, o, h, io, z⟩
def mAppend (i : Nat) (m : M PyData) : M PyData := m.bind fun d => fun ρ => match ρ[i]? with
  | some (some (.ol xs)) => if xs.length < sizeLine then .ok .none (ρ.set i (some (.ol (xs ++ [d])))) else .bad
  | _ => .bad
def isOl (ρ : Rho) (i : Nat) : Bool := match ρ[i]? with
  | some (some (.ol _)) => true
  | _ => false
def mOl {γ : Type} (i : Nat) (m : M γ) : M γ := fun ρ => if isOl ρ i = true then m ρ else .bad
omit [Tbs] in
theorem isOl_at {ρ : Rho} {i : Nat} (h : isOl ρ i = true) : ∃ xs, ρ[i]? = some (some (.ol xs)) := by
  unfold isOl at h
  split at h
  · rename_i xs e; exact ⟨xs, e⟩
  · cases h
theorem x_append {i : Nat} {o : Expr} {m : M PyData} (ho : PE X o (tVar i)) (he : PE X e (tD C m))
    (hbase : attributeBase o "append" X.env (eval o X.env) = eval o X.env := by rfl)
    (hfew : ((backTo cpos (starEach [e] X.env)).all (fun z => !z.1) && (backToKw cpos (keywordEach [] X.env)).all (fun z => z.1.isSome)
      && decide ([e].length + ([] : List Keyword).length + (if ([] : List Keyword).isEmpty then 0 else 1) < 30)) = true := by rfl)
    (hline : (apos.endLine == cpos.line) = true := by rfl) (hs : starEach [e] X.env = (false, eval e X.env) :: starEach [] X.env := by rfl) :
    PE X (.Call (.Attribute o "append" apos) [e] [] cpos) (tD C (mOl i (mAppend i m))) := by
  refine (pe_bm PySem.F.plainAttrs_list PySem.F.slot_list_append PySem.F.type_list_append mt_append ho (pa_cons he pa_nil hs) hbase hfew hline hs rfl).imp fun σ H Q ⟨F, ρ, sr, p⟩ => ?_
  unfold mOl at p
  split at p
  · rename_i hi
    obtain ⟨xs, ex⟩ := isOl_at hi
    obtain ⟨v, hv, a, vs, rfl, h1, h2, h3⟩ := sr.sl i _ ex
    refine ⟨_, hv, .inl ⟨rfl, vs, SqL.of h2⟩, F, ρ, sr, p.part fun d ρ1 F1 H1 y e1 q1 g1 s1 r1 => ?_⟩
    have q1 := q1.on stb_D g1
    cases q : ρ1[i]? with
    | none => simp only [q] at q1; exact q1.elim
    | some oo =>
      cases oo with
      | none => simp only [q] at q1; exact q1.elim
      | some oo =>
        cases oo with
        | ol ys =>
          simp only [q] at q1
          split at q1
          · rename_i hz
            obtain ⟨v', hv', b, ws, e2, k1, k2, k3⟩ := s1.sl i _ q
            rw [hv] at hv'; cases hv'; cases e2
            have st := SR.write (i := i) (o' := .ol (ys ++ [d])) (u := .lst (ws ++ [y])) s1 q rfl hv rfl ⟨a, ws ++ [y], rfl, k1, upd_same, k3.append (.cons r1 .nil)⟩
            exact ⟨a, ws, y, rfl, rfl, k2, by rw [k3.len]; exact hz, q1 F1 _ _ st.2 st.1 .non⟩
          · exact q1.elim
        | _ => simp only [q] at q1; exact q1.elim
  · exact p.elim
def mPopAt (i : Nat) (m : M PyData) : M PyData := m.bind fun d => fun ρ => match d, ρ[i]? with
  | .int j, some (some (.ol xs)) => if -(2 ^ 63) ≤ j ∧ j < 2 ^ 63 then (match seqIndex? j xs.length with
      | some k => (match xs[k]? with
        | some y => .ok y (ρ.set i (some (.ol (xs.eraseIdx k))))
        | none => .bad)
      | none => .bad) else .bad
  | _, _ => .bad
theorem x_popAt {i : Nat} {o : Expr} {m : M PyData} (ho : PE X o (tVar i)) (he : PE X e (tD C m))
    (hbase : attributeBase o "pop" X.env (eval o X.env) = eval o X.env := by rfl)
    (hfew : ((backTo cpos (starEach [e] X.env)).all (fun z => !z.1) && (backToKw cpos (keywordEach [] X.env)).all (fun z => z.1.isSome)
      && decide ([e].length + ([] : List Keyword).length + (if ([] : List Keyword).isEmpty then 0 else 1) < 30)) = true := by rfl)
    (hline : (apos.endLine == cpos.line) = true := by rfl) (hs : starEach [e] X.env = (false, eval e X.env) :: starEach [] X.env := by rfl) :
    PE X (.Call (.Attribute o "pop" apos) [e] [] cpos) (tD C (mOl i (mPopAt i m))) := by
  refine (pe_bm PySem.F.plainAttrs_list PySem.F.slot_list_pop PySem.F.type_list_pop mt_popAt ho (pa_cons he pa_nil hs) hbase hfew hline hs rfl).imp fun σ H Q ⟨F, ρ, sr, p⟩ => ?_
  unfold mOl at p
  split at p
  · rename_i hi
    obtain ⟨xs, ex⟩ := isOl_at hi
    obtain ⟨v, hv, a, vs, rfl, h1, h2, h3⟩ := sr.sl i _ ex
    refine ⟨_, hv, .inl ⟨rfl, vs, SqL.of h2⟩, F, ρ, sr, p.part fun d ρ1 F1 H1 y e1 q1 g1 s1 r1 => ?_⟩
    have q1 := q1.on stb_D g1
    cases d with
    | int j =>
      cases q : ρ1[i]? with
      | none => simp only [q] at q1; exact q1.elim
      | some oo =>
        cases oo with
        | none => simp only [q] at q1; exact q1.elim
        | some oo =>
          cases oo with
          | ol ys =>
            simp only [q] at q1
            split at q1
            · rename_i hz
              cases ek : seqIndex? j ys.length with
              | none => simp only [ek] at q1; exact q1.elim
              | some k =>
                simp only [ek] at q1
                cases ey : ys[k]? with
                | none => simp only [ey] at q1; exact q1.elim
                | some z =>
                  simp only [ey] at q1
                  obtain ⟨v', hv', b, ws, e2, k1, k2, k3⟩ := s1.sl i _ q
                  rw [hv] at hv'; cases hv'; cases e2
                  obtain ⟨w, ew, dw⟩ := k3.get ey
                  cases r1
                  have st := SR.write (i := i) (o' := .ol (ys.eraseIdx k)) (u := .lst (ws.eraseIdx k)) s1 q rfl hv rfl ⟨a, ws.eraseIdx k, rfl, k1, upd_same, k3.erase k⟩
                  exact ⟨a, ws, j, k, w, rfl, rfl, k2, hz.1, hz.2, by rw [k3.len]; exact ek, ew, q1 F1 _ _ st.2 st.1 dw⟩
            · exact q1.elim
          | _ => simp only [q] at q1; exact q1.elim
    | _ => exact q1.elim
  · exact p.elim
end
end Eg
namespace Eg
open PySem L2 PySem.W PySem.SeqAt
def keyD : PyData → Option Key
  | .int i => some (.inl i)
  | .str x => some (.inr x)
  | _ => none
def dGet (kvs : List (Key × PyData)) (k : Key) : Option PyData := (kvs.find? fun kv => decide (kv.1 = k)).map (·.2)
def dPut (kvs : List (Key × PyData)) (k : Key) (v : PyData) : List (Key × PyData) :=
  if (kvs.any fun e => decide (e.1 = k)) = true then kvs.map (fun e => if e.1 = k then (e.1, v) else e) else kvs ++ [(k, v)]
section
variable [Tbs] {K : Kw} {H : Hp}
theorem KD.get {k : Key} : ∀ {es : List (Key × V)} {kvs : List (Key × PyData)} {d : PyData}, KD K H es kvs → dGet kvs k = some d → ∃ v, valV es k = some v ∧ DV K H v d
  | _, _, _, .nil, e => by cases e
  | _, _, d, .cons (k := k') (v := v) (d := d') h t, e => by
    by_cases q : k' = k
    · simp only [dGet, List.find?_cons, q, decide_true, Option.map_some] at e
      cases e
      exact ⟨v, valV_pos q, h⟩
    · simp only [dGet, List.find?_cons, q, decide_false] at e
      obtain ⟨w, e1, h1⟩ := KD.get t e
      exact ⟨w, by rw [valV_neg q]; exact e1, h1⟩
theorem KD.anyK {k : Key} : ∀ {es : List (Key × V)} {kvs : List (Key × PyData)}, KD K H es kvs → (es.any fun kv => decide (kv.1 = k)) = (kvs.any fun kv => decide (kv.1 = k))
  | _, _, .nil => rfl
  | _, _, .cons h t => by rw [List.any_cons, List.any_cons, KD.anyK t]
theorem KD.mapK {k : Key} {v : V} {d : PyData} (h : DV K H v d) : ∀ {es : List (Key × V)} {kvs : List (Key × PyData)}, KD K H es kvs → KD K H (es.map fun kv => if kv.1 = k then (kv.1, v) else kv) (kvs.map fun kv => if kv.1 = k then (kv.1, d) else kv)
  | _, _, .nil => .nil
  | _, _, .cons (k := k') h1 t => by
    rw [List.map_cons, List.map_cons]
    by_cases q : k' = k
    · rw [if_pos q, if_pos q]; exact .cons h (KD.mapK h t)
    · rw [if_neg q, if_neg q]; exact .cons h1 (KD.mapK h t)
theorem KD.snoc {k : Key} {v : V} {d : PyData} (h : DV K H v d) : ∀ {es : List (Key × V)} {kvs : List (Key × PyData)}, KD K H es kvs → KD K H (es ++ [(k, v)]) (kvs ++ [(k, d)])
  | _, _, .nil => .cons h .nil
  | _, _, .cons h1 t => .cons h1 (KD.snoc h t)
theorem KD.put {k : Key} {v : V} {d : PyData} (h : DV K H v d) {es : List (Key × V)} {kvs : List (Key × PyData)} (t : KD K H es kvs) : KD K H (putK es k v) (dPut kvs k d) := by
  unfold putK dPut
  rw [t.anyK]
  split
  · exact KD.mapK h t
  · exact KD.snoc h t
theorem KD.len : ∀ {es : List (Key × V)} {kvs : List (Key × PyData)}, KD K H es kvs → es.length = kvs.length
  | _, _, .nil => rfl
  | _, _, .cons _ t => by rw [List.length_cons, List.length_cons, KD.len t]
end
section
variable [Tbs] {X : Cx} {C : Ct} {e a b c o : Expr} {es : List Expr} {pos apos cpos pos' : Pos}
def mDGet (i : Nat) (mk : M PyData) : M PyData := mk.bind fun kd => fun ρ => match keyD kd, ρ[i]? with
  | some k, some (some (.od kvs)) => (match dGet kvs k with
    | some d => .ok d ρ
    | none => .bad)
  | _, _ => .bad
def mHas {γ : Type} (i : Nat) (m : M γ) : M γ := fun ρ => match ρ[i]? with
  | some (some _) => m ρ
  | _ => .bad
inductive Out where
  | nx
  | rt (r : OD)
  | bk
  | ct
def Pres (σ σ' : St) (P : List Nat) : Prop := σ'.length = σ.length ∧ ∀ p, p ∈ P → σ'[p]? = σ[p]?
theorem Pres.refl {σ : St} {P : List Nat} : Pres σ σ P := ⟨rfl, fun _ _ => rfl⟩
theorem Pres.trans {σ σ1 σ2 : St} {P : List Nat} (a : Pres σ σ1 P) (b : Pres σ1 σ2 P) : Pres σ σ2 P := ⟨b.1.trans a.1, fun p h => (b.2 p h).trans (a.2 p h)⟩
def PostS (C : Ct) (P : List Nat) (σ : St) (ρ : Rho) (F H : Hp) (D : Ends) : Res Out → Prop
  | .ok .nx ρ' => ∀ F' H' σ', Grow (own σ ρ) (own σ' ρ') F H F' H' → SR C.K F' H' σ' ρ' → Pres σ σ' P → D.nx σ' H'
  | .ok (.rt r) ρ' => ∀ F' H' σ' v, Grow (own σ ρ) (own σ' ρ') F H F' H' → SR C.K F' H' σ' ρ' → Pres σ σ' P → OR C.K F' H' v r → (r.isO = true → ∀ a, v = .ref a → ¬ own σ' ρ' a ∧ (H a = none ∨ own σ ρ a)) → D.rt v H'
  | .ok .bk ρ' => ∀ F' H' σ', Grow (own σ ρ) (own σ' ρ') F H F' H' → SR C.K F' H' σ' ρ' → Pres σ σ' P → D.bk σ' H'
  | .ok .ct ρ' => ∀ F' H' σ', Grow (own σ ρ) (own σ' ρ') F H F' H' → SR C.K F' H' σ' ρ' → Pres σ σ' P → D.ct σ' H'
  | .ex x ρ' => ∀ F' H' σ' cls d, Grow (own σ ρ) (own σ' ρ') F H F' H' → SR C.K F' H' σ' ρ' → Pres σ σ' P → C.XR F' H' cls d x → C.W cls d σ' H'
  | .bad => False
def tS (C : Ct) (P : List Nat) (m : M Out) : TS := fun D σ H => ∃ F ρ, SR C.K F H σ ρ ∧ PostS C P σ ρ F H D (m ρ)
section
variable {P : List Nat} {σ σ1 : St} {ρ ρ1 : Rho} {F H F1 H1 : Hp} {D : Ends} {st : Stmt} {sts : List Stmt}
theorem PostS.on {x : Res Out} (h : PostS C P σ ρ F H D x) (g : Grow (own σ ρ) (own σ1 ρ1) F H F1 H1) (pr : Pres σ σ1 P) : PostS C P σ1 ρ1 F1 H1 D x := by
  cases x with
  | bad => exact h
  | ex x ρ' => exact fun F' H' σ' cls d g' s p r => h F' H' σ' cls d (g.trans g') s (pr.trans p) r
  | ok o ρ' =>
    cases o with
    | nx => exact fun F' H' σ' g' s p => h F' H' σ' (g.trans g') s (pr.trans p)
    | bk => exact fun F' H' σ' g' s p => h F' H' σ' (g.trans g') s (pr.trans p)
    | ct => exact fun F' H' σ' g' s p => h F' H' σ' (g.trans g') s (pr.trans p)
    | rt r => exact fun F' H' σ' v g' s p ro n => h F' H' σ' v (g.trans g') s (pr.trans p) ro fun io a e => ⟨(n io a e).1, by
        rcases (n io a e).2 with z | z
        · exact g.back z
        · rcases g.ows a z with y | y
          · exact .inr y
          · exact .inl y⟩
theorem PostS.part {α β : Type} {RA : Hp → Hp → St → Rho → Rho → Hp → β → α → Prop} {R : β → Hp → Prop} {ma : M α} {f : α → M Out} (h : PostS C P σ ρ F H D (ma.bind f ρ))
    (k : ∀ a ρ' F' H' v, PostS C P σ ρ' F' H' D (f a ρ') → Grow (own σ ρ) (own σ ρ') F H F' H' → SR C.K F' H' σ ρ' → RA F' H' σ ρ' ρ H v a → R v H') : PostE C RA σ ρ F H R (ma ρ) := by
  unfold M.bind at h
  cases e : ma ρ with
  | ok a ρ' => rw [e] at h; exact fun F' H' v g s r => k a ρ' F' H' v (h.on g Pres.refl) g s r
  | ex x ρ' => rw [e] at h; exact fun F' H' cls d g s r => h F' H' σ cls d g s Pres.refl r
  | bad => rw [e] at h; exact h
theorem _root_.L2.PS.imp {t t' : TS} (h : PS X st t) (i : ∀ D σ H, t' D σ H → t D σ H) : PS X st t' := ⟨fun pins s σ H D I q => h.run pins s σ H D I (i _ _ _ q)⟩
theorem _root_.L2.PSs.imp {t t' : TS} (h : PSs X sts t) (i : ∀ D σ H, t' D σ H → t D σ H) : PSs X sts t' := ⟨fun pins s σ H D I q => h.run pins s σ H D I (i _ _ _ q)⟩
def sSeq (m n : M Out) : M Out := m.bind fun o => match o with
  | .nx => n
  | o => M.ret o
def sNext : M Out := M.ret .nx
theorem ss_nil : PSs X [] (tS C P sNext) := pss_nil.imp fun D σ H ⟨F, ρ, sr, p⟩ => p F H σ Grow.refl sr Pres.refl
theorem ss_cons {m n : M Out} (h1 : PS X st (tS C P m)) (h2 : PSs X sts (tS C P n)) : PSs X (st :: sts) (tS C P (sSeq m n)) :=
  (pss_cons h1 h2).imp fun D σ H ⟨F, ρ, sr, p⟩ => by
    refine ⟨F, ρ, sr, ?_⟩
    unfold sSeq M.bind at p
    cases e : m ρ with
    | bad => rw [e] at p; exact p
    | ex x ρ' => rw [e] at p; exact p
    | ok o ρ' =>
      rw [e] at p
      cases o with
      | nx => exact fun F' H' σ' g s pr => ⟨F', ρ', s, p.on g pr⟩
      | rt r => exact p
      | bk => exact p
      | ct => exact p
theorem ss_one {m : M Out} (h1 : PS X st (tS C P m)) : PSs X [st] (tS C P m) := (pss_one h1).imp fun D σ H q => q
def sExpr (m : M PyData) : M Out := m.bind fun _ => M.ret .nx
theorem s_expr {m : M PyData} (he : PE X e (tD C m)) (hs : swapsWith e none pos.line X.env = pure false := by rfl) : PS X (.Expr e pos) (tS C P (sExpr m)) :=
  (ps_expr he hs).imp fun D σ H ⟨F, ρ, sr, p⟩ => ⟨F, ρ, sr, p.part fun d ρ1 F1 H1 x q1 g1 s1 r1 => q1 F1 H1 σ Grow.refl s1 Pres.refl⟩
def sRet (m : M OD) : M Out := m.bind fun r => M.ret (.rt r)
theorem s_ret {m : M OD} (he : PE X e (tO C m)) : PS X (.Return (some e) pos) (tS C P (sRet m)) :=
  (ps_ret he).imp fun D σ H ⟨F, ρ, sr, p⟩ => by
    refine ⟨F, ρ, sr, ?_⟩
    unfold sRet M.bind at p
    cases e : m ρ with
    | bad => rw [e] at p; exact p
    | ex x ρ' => rw [e] at p; exact fun F' H' cls d g s r => p F' H' σ cls d g s Pres.refl r
    | ok r ρ' => rw [e] at p; exact fun F' H' v g s q => p F' H' σ v g s Pres.refl q.1 q.2
def sIf (mt : M Bool) (ma mb : M Out) : M Out := mt.bind fun b => if b = true then ma else mb
theorem s_if {as bs : List Stmt} {mt : M Bool} {ma mb : M Out} (hc : PT X c (tT C mt)) (ha : PSs X as (tS C P ma)) (hb : PSs X bs (tS C P mb)) : PS X (.If c as bs pos) (tS C P (sIf mt ma mb)) :=
  (ps_if hc ha hb).imp fun D σ H ⟨F, ρ, sr, p⟩ => ⟨F, ρ, sr, p.part fun k ρ1 F1 H1 x q1 g1 s1 r1 => by
    subst r1
    cases x with
    | true => exact ⟨F1, ρ1, s1, q1⟩
    | false => exact ⟨F1, ρ1, s1, q1⟩⟩
theorem SR.store {K : Kw} {i : Nat} {v : V} {o : OD} (s : SR K F H σ ρ) (hi : i < σ.length) (h : OR K F H v o) (no : o.isO = true → ∀ a, v = .ref a → ¬ own σ ρ a) : SR K F H (σ.set i (some v)) (ρ.set i (some o)) := by
  have hr : i < ρ.length := by rw [s.len]; exact hi
  refine ⟨s.sub, by rw [List.length_set, List.length_set]; exact s.len, fun j u hj => ?_, fun j k u u' a ne h1 i1 h2 i2 h3 h4 => ?_, s.tb⟩
  · by_cases e : i = j
    · subst e
      rw [List.getElem?_set_self hr] at hj; cases hj
      exact ⟨v, by rw [List.getElem?_set_self hi], h⟩
    · rw [List.getElem?_set_ne e] at hj
      obtain ⟨w, e1, e2⟩ := s.sl j u hj
      exact ⟨w, by rw [List.getElem?_set_ne e]; exact e1, e2⟩
  · by_cases ej : i = j
    · subst ej
      rw [List.getElem?_set_self hr] at h1; cases h1
      rw [List.getElem?_set_self hi] at h3
      rw [List.getElem?_set_ne ne] at h2 h4
      cases h3
      exact no i1 a rfl ⟨k, u', h2, i2, h4⟩
    · by_cases ek : i = k
      · subst ek
        rw [List.getElem?_set_self hr] at h2; cases h2
        rw [List.getElem?_set_self hi] at h4
        rw [List.getElem?_set_ne ej] at h1 h3
        cases h4
        exact no i2 a rfl ⟨j, u, h1, i1, h3⟩
      · rw [List.getElem?_set_ne ej] at h1 h3
        rw [List.getElem?_set_ne ek] at h2 h4
        exact s.sep j k u u' a ne h1 i1 h2 i2 h3 h4
theorem own.store {i : Nat} {v : V} {o : OD} {b : Addr} (hi : i < σ.length) (h : own (σ.set i (some v)) (ρ.set i (some o)) b) : own σ ρ b ∨ (o.isO = true ∧ v = .ref b) := by
  obtain ⟨j, u, e1, e2, e3⟩ := h
  by_cases e : i = j
  · subst e
    rw [List.getElem?_set_self hi] at e3; cases e3
    by_cases hr : i < ρ.length
    · rw [List.getElem?_set_self hr] at e1; cases e1; exact .inr ⟨e2, rfl⟩
    · rw [List.getElem?_eq_none (by rw [List.length_set]; omega)] at e1; cases e1
  · rw [List.getElem?_set_ne e] at e1 e3
    exact .inl ⟨j, u, e1, e2, e3⟩
theorem stored {i : Nat} {v : V} {o : OD} {ρ0 : Rho} {H0 F0 : Hp} (s : SR C.K F H σ ρ) (hi : i < σ.length) (hP : i ∉ P) (g : Grow (own σ ρ0) (own σ ρ) F0 H0 F H) (h : rO C.K F H σ ρ ρ0 H0 v o) :
    SR C.K F H (σ.set i (some v)) (ρ.set i (some o)) ∧ Grow (own σ ρ0) (own (σ.set i (some v)) (ρ.set i (some o))) F0 H0 F H ∧ Pres σ (σ.set i (some v)) P := by
  refine ⟨s.store hi h.1 fun io a e => (h.2 io a e).1, ⟨g.ext, g.keep, g.kt, g.new, fun b hb => ?_⟩, by rw [List.length_set], fun p hp => List.getElem?_set_ne fun z => hP (by rw [z]; exact hp)⟩
  rcases own.store hi hb with z | ⟨z1, z2⟩
  · exact g.ows b z
  · rcases (h.2 z1 b z2).2 with y | y
    · exact .inr y
    · exact .inl y
def sSet (i : Nat) (m : M OD) : M Out := m.bind fun o => fun ρ => .ok .nx (ρ.set i (some o))
theorem PostS.set {i : Nat} {m : M OD} (h : PostS C P σ ρ F H D (sSet i m ρ)) (hi : i < σ.length) (hP : i ∉ P) : PostE C (rO C.K) σ ρ F H (fun v H' => D.nx (σ.set i (some v)) H') (m ρ) := by
  unfold sSet M.bind at h
  cases e : m ρ with
  | bad => rw [e] at h; exact h
  | ex x ρ' => rw [e] at h; exact fun F' H' cls d g s r => h F' H' σ cls d g s Pres.refl r
  | ok o ρ' =>
    rw [e] at h
    intro F' H' v g s r
    obtain ⟨a1, a2, a3⟩ := stored (P := P) s hi hP g r
    exact h F' H' _ a2 a1 a3
theorem s_set {i : Nat} {x : Str} {m : M OD} (hN : X.N.Nodup) (hi : X.N[i]? = some x) (hx : Loc X.env.scope x) (he : PE X e (tO C m)) (hP : i ∉ P := by decide) (hs : swapsWith e (some (.Name x pos')) pos.line X.env = pure false := by rfl) (hf : X.fn x = true ∨ X.env.scope.names.lookup x = some .local := by first | exact .inl rfl | exact .inr rfl | assumption) :
    PS X (.Assign [.Name x pos'] e pos) (tS C P (sSet i m)) := by
  refine ⟨fun pins s σ H D I ⟨F, ρ, sr, p⟩ => (ps_set hN hi hx he hs hf).run pins s σ H D I ⟨F, ρ, sr, ?_⟩⟩
  exact PostS.set p (by rw [I.len]; exact (List.getElem?_eq_some_iff.mp hi).1) hP
end
end
end Eg
namespace Eg
open PySem L2 PySem.W PySem.SeqAt
section
variable [Tbs] {X : Cx} {C : Ct} {e a b c o tg iter : Expr} {es : List Expr} {pos apos cpos pos' : Pos} {P : List Nat} {σ σ1 : St} {ρ ρ1 : Rho} {F H F1 H1 : Hp} {D : Ends} {body : List Stmt}
def WalkD (K : Kw) (F : Hp) (J : It) (xs : List PyData) : Prop := ∀ F2 H2 (i : Nat), Same F F2 → Same F2 H2 → (xs.length ≤ i → J.stop i H2) ∧ ∀ x, xs[i]? = some x → J.go i H2 ∧ ∀ v H3, J.yld i H2 v H3 → ∃ F3, Alloc K F2 H2 F3 H3 v (.sh x)
def tI (C : Ct) (m : M (List PyData)) : TI := fun σ H R => ∃ F ρ, SR C.K F H σ ρ ∧ PostE (β := It) C (fun F' _ _ _ _ _ J xs => WalkD C.K F' J xs) σ ρ F H R (m ρ)
theorem stb_I {K : Kw} : Stb (β := It) (fun F' _ _ _ _ _ J xs => WalkD K F' J xs) := fun _ _ _ _ _ _ _ _ _ _ _ _ _ r => r
def seqItems : PyData → M (List PyData)
  | .list ds => M.ret ds
  | .tuple ds => M.ret ds
  | _ => M.bad
theorem pi_seq {l : Expr} {tl : TE} (hl : PE X l tl) : PI X tg l (fun σ H R => tl σ H fun x H1 => ∃ a, x = .ref a ∧ (((∃ xs, SqL X.K H1 a xs) ∧ R (Itl X.K a) H1) ∨ ((∃ xs, SqT X.K H1 a xs) ∧ R (Itt X.K a) H1))) := by
  refine ⟨fun pins s σ H R I h => thn (hl.run pins s σ H _ I h) fun v s1 ⟨x, H1, I1, r1, a, ex, q⟩ => ?_⟩
  subst ex
  cases r1
  have fp : ∀ b ∈ [s1.heap.objs.size], FpOk X pins H1 b := fun b hb => by
    have eb : b = s1.heap.objs.size := by simpa using hb
    subst eb
    exact I1.fpOk (Nat.le_refl _) (I1.hok.fresh (Nat.le_refl _))
  rcases q with ⟨⟨xs, hq⟩, q⟩ | ⟨⟨xs, hq⟩, q⟩
  · obtain ⟨its, rv, pl, hz⟩ := I1.list hq
    exact wpAny_pyIter_list pl.isList ⟨_, [_], _, _, H1, rfl, I1.kept (t' := s1.toks) fun b o e => Heap.get?_push_of_some _ e, turn_list a _, ⟨_, Heap.get?_push_size _ rfl, rfl, rfl⟩, fp, q⟩
  · obtain ⟨its, rv, pl, hz⟩ := I1.tuple hq
    exact wpAny_pyIter_tuple (show s1.heap.IsTuple a its.toArray from pl) ⟨_, [_], _, _, H1, rfl, I1.kept (t' := s1.toks) fun b o e => Heap.get?_push_of_some _ e, turn_tuple a _, ⟨_, Heap.get?_push_size _ rfl, rfl, rfl⟩, fp, q⟩
theorem _root_.L2.PI.imp {t t' : TI} (h : PI X tg iter t) (i : ∀ σ H R, t' σ H R → t σ H R) : PI X tg iter t' := ⟨fun pins s σ H R I q => h.run pins s σ H R I (i _ _ _ q)⟩
theorem walk_list {K : Kw} {a : Addr} {vs : List V} {ds : List PyData} (h : F a = some (.lst vs)) (hd : DVs K F vs ds) : WalkD K F (Itl K a) ds := fun F2 H2 i s1 s2 => by
  have h2 : SqL K H2 a vs := SqL.of (s2 _ _ (s1 _ _ h))
  refine ⟨fun hl => ⟨vs, h2, by rw [hd.len]; exact hl⟩, fun x hx => ?_⟩
  obtain ⟨v, ev, dv⟩ := hd.get hx
  refine ⟨⟨vs, v, h2, ev⟩, fun w H3 y => ?_⟩
  obtain ⟨e1, y⟩ := y
  subst e1
  have := y vs h2
  rw [ev] at this; cases this
  exact ⟨F2, .asis (DV.mono s1 dv)⟩
theorem walk_tup {K : Kw} {a : Addr} {vs : List V} {ds : List PyData} (h : SqT K F a vs) (hd : DVs K F vs ds) : WalkD K F (Itt K a) ds := fun F2 H2 i s1 s2 => by
  have h2 : SqT K H2 a vs := s2.sqT (s1.sqT h)
  refine ⟨fun hl => ⟨vs, h2, by rw [hd.len]; exact hl⟩, fun x hx => ?_⟩
  obtain ⟨v, ev, dv⟩ := hd.get hx
  refine ⟨⟨vs, v, h2, ev⟩, fun w H3 y => ?_⟩
  obtain ⟨e1, y⟩ := y
  subst e1
  have := y vs h2
  rw [ev] at this; cases this
  exact ⟨F2, .asis (DV.mono s1 dv)⟩
theorem i_seq {m : M PyData} (h : PE X iter (tD C m)) (hK : X.KW = C.K := by rfl) : PI X tg iter (tI C (m.bind seqItems)) :=
  (pi_seq h).imp fun σ H R ⟨F, ρ, sr, p⟩ => ⟨F, ρ, sr, p.part fun d ρ1 F1 H1 x e1 q1 g1 s1 r1 => by
    have q1 := q1.on stb_I g1
    rw [show X.K = C.K.fr from congrArg Kw.fr hK]
    cases r1 with
    | @lst a vs ds h1 h2 => exact ⟨a, rfl, .inl ⟨⟨vs, SqL.of (s1.sub _ _ h1)⟩, q1 F1 H1 _ Grow.refl s1 (walk_list h1 h2)⟩⟩
    | @tup a vs ds h1 h2 => exact ⟨a, rfl, .inr ⟨⟨vs, s1.sub.sqT h1⟩, q1 F1 H1 _ Grow.refl s1 (walk_tup h1 h2)⟩⟩
    | _ => exact q1.elim⟩
def rngD (lo : Int) (n : Nat) : List PyData := (List.range n).map fun (k : Nat) => .int (lo + (k : Int))
theorem walk_rng {K : Kw} {lo : Int} {n : Nat} : WalkD K F (Itr lo n) (rngD lo n) := fun F2 H2 i s1 s2 => by
  have hl : (rngD lo n).length = n := by simp [rngD]
  refine ⟨fun h => by rw [hl] at h; exact h, fun x hx => ?_⟩
  have hi : i < n := by
    have := (List.getElem?_eq_some_iff.mp hx).1
    rw [hl] at this; exact this
  refine ⟨hi, fun v H3 ⟨e1, e2⟩ => ?_⟩
  subst e1 e2
  have ex : x = .int (lo + (i : Int)) := by
    simp [rngD, hi] at hx
    exact hx.symm
  subst ex
  exact ⟨F2, .asis (.int _)⟩
def rng1 : List PyData → Option (List PyData)
  | [.int j] => if -(2 ^ 62) ≤ j ∧ j < 2 ^ 62 then some (rngD 0 j.toNat) else none
  | _ => none
theorem many' {γ β : Type} {ms : M (List Arg)} {g : List PyData → Option γ} {RR : Hp → Hp → St → Rho → Rho → Hp → β → γ → Prop} {Q : β → Hp → Prop} {R : List V → Hp → Prop}
    (sr : SR C.K F H σ ρ) (st : Stb RR) (p : PostE C RR σ ρ F H Q (mL g ms ρ))
    (k : ∀ xs ds d ρ2 F2 H2, SR C.K F2 H2 σ ρ2 → Vws C.K F2 H2 xs ds → g ds = some d → PostE C RR σ ρ2 F2 H2 Q (.ok d ρ2) → R xs H2) : tL C ms σ H R :=
  ⟨F, ρ, sr, p.part fun as ρ1 F1 H1 xs e1 q1 g1 s1 r1 => by
    have q1 := q1.on st g1
    cases ex : resL ρ1 as with
    | none => simp only [M.bind, M.get, ex] at q1; exact q1.elim
    | some ds =>
      cases ed : g ds with
      | none => simp only [M.bind, M.get, ex, Option.bind_eq_bind, Option.bind_some, ed] at q1; exact q1.elim
      | some d =>
        simp only [M.bind, M.get, ex, Option.bind_eq_bind, Option.bind_some, ed] at q1
        exact k xs ds d ρ1 F1 H1 s1 (rAs.views s1 r1 ex) ed q1⟩
theorem i_range1 {p : Pos} {ms : M (List Arg)} (hg : Gl X "range") (hm : X.mg "range" = none) (ha : PA X [a] (tL C ms)) (hs : starEach [a] X.env = [(false, eval a X.env)] := by rfl) : PI X tg (.Call (.Name "range" p) [a] [] pos) (tI C (mL rng1 ms)) :=
  (pi_range1 hg hm ha hs).imp fun σ H R ⟨F, ρ, sr, q⟩ => many' sr stb_I q fun xs ds d ρ2 F2 H2 s2 vw e q => by
    match ds, vw, e with
    | [.int j], .cons h .nil, e =>
      simp only [rng1] at e
      split at e <;> cases e
      rename_i hz
      cases h
      exact ⟨j, rfl, hz.1, hz.2, q F2 H2 _ Grow.refl s2 walk_rng⟩
abbrev Tgt := PyData → Rho → Option Rho
def TgOk (C : Ct) (P : List Nat) (n : Nat) (g : TG) (t : Tgt) : Prop := ∀ (v : V) (d : PyData) (σ : St) (ρ ρ' : Rho) (F H : Hp) (Q : St → Hp → Prop), σ.length = n → SR C.K F H σ ρ → DV C.K F v d → t d ρ = some ρ' →
  (∀ σ', SR C.K F H σ' ρ' → (∀ b, own σ' ρ' b → own σ ρ b) → Pres σ σ' P → Q σ' H) → g v σ H Q
def tName (i : Nat) : Tgt := fun d ρ => some (ρ.set i (some (.sh d)))
theorem g_name {i n : Nat} (hi : i < n := by decide) (hP : i ∉ P := by decide) : TgOk C P n (gName i) (tName i) := fun v d σ ρ ρ' F H Q hn sr dv e q => by
  cases e
  have hi' : i < σ.length := by rw [hn]; exact hi
  refine q _ (sr.store (o := .sh d) hi' dv fun z => by cases z) (fun b hb => ?_) ⟨by rw [List.length_set], fun p hp => List.getElem?_set_ne fun z => hP (by rw [z]; exact hp)⟩
  rcases own.store hi' hb with z | ⟨z, _⟩
  · exact z
  · cases z
def tTup (ts : List Tgt) : Tgt := fun d ρ => match d with
  | .tuple ds => go ts ds ρ
  | _ => none
where go : List Tgt → List PyData → Rho → Option Rho
  | [], [], ρ => some ρ
  | t :: ts, d :: ds, ρ => (t d ρ).bind fun ρ' => go ts ds ρ'
  | _, _, _ => none
inductive TgsOk (C : Ct) (P : List Nat) (n : Nat) : TGs → List Tgt → Prop
  | nil : TgsOk C P n gNil []
  | cons {g : TG} {u : TGs} {t : Tgt} {ts : List Tgt} : TgOk C P n g t → TgsOk C P n u ts → TgsOk C P n (gCons g u) (t :: ts)
theorem tgs_run {n : Nat} : ∀ {u : TGs} {ts : List Tgt}, TgsOk C P n u ts → ∀ (vs : List V) (ds : List PyData) (σ : St) (ρ ρ' : Rho) (F H : Hp) (Q : St → Hp → Prop), σ.length = n → SR C.K F H σ ρ → DVs C.K F vs ds → tTup.go ts ds ρ = some ρ' →
    (∀ σ', SR C.K F H σ' ρ' → (∀ b, own σ' ρ' b → own σ ρ b) → Pres σ σ' P → Q σ' H) → u vs σ H Q
  | _, _, .nil, _, _, σ, ρ, ρ', F, H, Q, hn, sr, .nil, e, q => by cases e; exact ⟨rfl, q σ sr (fun _ h => h) Pres.refl⟩
  | _, _, .cons hg hu, _, _, σ, ρ, ρ', F, H, Q, hn, sr, .nil, e, q => by cases e
  | _, _, .nil, _, _, σ, ρ, ρ', F, H, Q, hn, sr, .cons _ _, e, q => by cases e
  | _, _, .cons (t := t) hg hu, _, _, σ, ρ, ρ', F, H, Q, hn, sr, .cons (v := v) (d := d) h1 h2, e, q => by
    simp only [tTup.go] at e
    cases e1 : t d ρ with
    | none => rw [e1] at e; cases e
    | some ρ1 =>
      rw [e1] at e
      refine ⟨v, _, rfl, hg v d σ ρ ρ1 F H _ hn sr h1 e1 fun σ1 s1 o1 p1 => ?_⟩
      exact tgs_run hu _ _ σ1 ρ1 ρ' F H Q (by rw [p1.1]; exact hn) s1 h2 e fun σ2 s2 o2 p2 => q σ2 s2 (fun b hb => o1 b (o2 b hb)) (p1.trans p2)
theorem g_tup {n k : Nat} {u : TGs} {ts : List Tgt} (h : TgsOk C P n u ts) (hk : ts.length = k := by rfl) : TgOk C P n (gTup C.K k u) (tTup ts) := fun v d σ ρ ρ' F H Q hn sr dv e q => by
  cases dv with
  | @tup a vs ds h1 h2 =>
    refine ⟨a, vs, rfl, sr.sub.sqT h1, ?_, tgs_run h vs ds σ ρ ρ' F H Q hn sr h2 e q⟩
    rw [h2.len, ← hk]
    have : ∀ (ts : List Tgt) (ds : List PyData) (ρ ρ' : Rho), tTup.go ts ds ρ = some ρ' → ds.length = ts.length := by
      intro ts
      induction ts with
      | nil => intro ds ρ ρ' h; cases ds with
        | nil => rfl
        | cons _ _ => cases h
      | cons t ts ih => intro ds ρ ρ' h; cases ds with
        | nil => cases h
        | cons d ds =>
          simp only [tTup.go] at h
          cases e1 : t d ρ with
          | none => rw [e1] at h; cases h
          | some ρ1 => rw [e1] at h; rw [List.length_cons, List.length_cons, ih ds ρ1 ρ' h]
    exact this ts ds ρ ρ' e
  | _ => cases e
def sLoop (t : Tgt) (body : M Out) : List PyData → M Out
  | [] => M.ret .nx
  | x :: xs => fun ρ => match t x ρ with
    | none => .bad
    | some ρ1 => (body.bind fun o => match o with
      | .nx => sLoop t body xs
      | .ct => sLoop t body xs
      | .bk => M.ret .nx
      | .rt r => M.ret (.rt r)) ρ1
def sFor (src : M (List PyData)) (t : Tgt) (body : M Out) : M Out := src.bind fun xs => sLoop t body xs
theorem s_for {g : TG} {t : Tgt} {src : M (List PyData)} {mb : M Out} {n : Nat} (hp : PassesOwn (model X.prog X.w) X.A X.env X.xe) (hc : X.calm = true) (hi : PI X tg iter (tI C src)) (hg : PG X tg g) (ht : TgOk C P n g t) (hb : PSs X body (tS C P mb)) (hN : X.N.length = n := by rfl)
    (hs : ∀ x, foldedSetIterable iter X.env x = pure x := by intro _; rfl) : PS X (.For tg iter body [] pos) (tS C P (sFor src t mb)) := by
  refine ⟨fun pins s σ H D I ⟨F, ρ, sr, p⟩ => (ps_for hp hc hi hg hb hs).run pins s σ H D I ⟨F, ρ, sr, p.part fun xs ρ1 F1 H1 J q1 g1 s1 wk => ?_⟩⟩
  have ln : σ.length = n := by rw [I.len, hN]
  refine ⟨fun i m σ' H' => m = xs.length - i ∧ i ≤ xs.length ∧ ∃ F' ρ', Same F1 F' ∧ SR C.K F' H' σ' ρ' ∧ σ'.length = n ∧ PostS C P σ' ρ' F' H' D (sLoop t mb (xs.drop i) ρ'), ⟨xs.length, by simp, Nat.zero_le _, F1, ρ1, Same.refl _, s1, ln, by rw [List.drop_zero]; exact q1⟩, ?_⟩
  rintro i m σ' H' ⟨rfl, hil, F', ρ', sf, s', ln', q'⟩
  obtain ⟨w1, w2⟩ := wk F' H' i sf s'.sub
  by_cases hlt : i < xs.length
  · obtain ⟨x, ex⟩ : ∃ x, xs[i] = x := ⟨_, rfl⟩
    obtain ⟨go, yl⟩ := w2 x (by rw [← ex]; simp [hlt])
    rw [List.drop_eq_getElem_cons hlt, ex] at q'
    simp only [sLoop] at q'
    refine .inr ⟨go, fun σ2 H2 => i + 1 ≤ xs.length ∧ ∃ F2 ρ2, Same F1 F2 ∧ SR C.K F2 H2 σ2 ρ2 ∧ σ2.length = n ∧ PostS C P σ2 ρ2 F2 H2 D (sLoop t mb (xs.drop (i + 1)) ρ2), fun σ2 H2 h2 => ⟨xs.length - (i + 1), by omega, rfl, h2⟩, fun v H2 y => ?_⟩
    obtain ⟨F2, al⟩ := yl v H2 y
    cases et : t x ρ' with
    | none => simp only [et] at q'; exact q'.elim
    | some ρ2 =>
      simp only [et] at q'
      have st : SR C.K F2 H2 σ' ρ' ∧ Grow (own σ' ρ') (own σ' ρ') F' H' F2 H2 ∧ DV C.K F2 v x := by
        cases al with
        | asis h => exact ⟨s', Grow.refl, h⟩
        | tup hp h =>
          have fp := s'.sub.free hp
          exact ⟨s'.laid hp, Grow.laid hp fp, .tup (.inl (.inl upd_same)) (h.upd fp)⟩
      obtain ⟨s2, g2, dv⟩ := st
      refine ht v x σ' ρ' ρ2 F2 H2 _ ln' s2 dv et fun σ3 s3 o3 p3 => ?_
      have g3 : Grow (own σ' ρ') (own σ3 ρ2) F' H' F2 H2 := g2.less o3
      have q3 := q'.on g3 p3
      refine ⟨F2, ρ2, s3, ?_⟩
      have ln3 : σ3.length = n := by rw [p3.1]; exact ln'
      have sf2 : Same F1 F2 := sf.trans g2.ext
      simp only [M.bind] at q3
      cases eb : mb ρ2 with
      | bad => simp only [eb] at q3; exact q3
      | ex x ρ4 => simp only [eb] at q3; exact q3
      | ok oo ρ4 =>
        simp only [eb] at q3
        cases oo with
        | nx => exact fun F4 H4 σ4 g4 s4 p4 => ⟨by omega, F4, ρ4, sf2.trans g4.ext, s4, by rw [p4.1]; exact ln3, q3.on g4 p4⟩
        | ct => exact fun F4 H4 σ4 g4 s4 p4 => ⟨by omega, F4, ρ4, sf2.trans g4.ext, s4, by rw [p4.1]; exact ln3, q3.on g4 p4⟩
        | bk => exact fun F4 H4 σ4 g4 s4 p4 => q3 F4 H4 σ4 g4 s4 p4
        | rt r => exact q3
  · have ei : i = xs.length := by omega
    subst ei
    rw [List.drop_length] at q'
    exact .inl ⟨w1 (Nat.le_refl _), q' F' H' σ' Grow.refl s' Pres.refl⟩
def sWhile (mt : M Bool) (body : M Out) : Nat → M Out
  | 0 => M.bad
  | n + 1 => mt.bind fun b => if b = true then (body.bind fun o => match o with
      | .nx => sWhile mt body n
      | .ct => sWhile mt body n
      | .bk => M.ret .nx
      | .rt r => M.ret (.rt r)) else M.ret .nx
theorem s_while {mt : M Bool} {mb : M Out} (n : Nat) (hp : PassesOwn (model X.prog X.w) X.A X.env X.xe) (hc : PT X c (tT C mt)) (hb : PSs X body (tS C P mb)) : PS X (.While c body [] pos) (tS C P (sWhile mt mb n)) :=
  (ps_while hp hc hb).imp fun D σ H ⟨F, ρ, sr, p⟩ => by
    refine ⟨fun m σ' H' => ∃ F' ρ', SR C.K F' H' σ' ρ' ∧ PostS C P σ' ρ' F' H' D (sWhile mt mb m ρ'), ⟨n, F, ρ, sr, p⟩, ?_⟩
    rintro m σ' H' ⟨F', ρ', s', q'⟩
    cases m with
    | zero => exact q'.elim
    | succ m =>
      simp only [sWhile] at q'
      refine ⟨F', ρ', s', q'.part fun k ρ1 F1 H1 x q1 g1 s1 r1 => ?_⟩
      subst r1
      cases x with
      | false => exact q1 F1 H1 σ' Grow.refl s1 Pres.refl
      | true =>
        refine ⟨fun σ2 H2 => ∃ F2 ρ2, SR C.K F2 H2 σ2 ρ2 ∧ PostS C P σ2 ρ2 F2 H2 D (sWhile mt mb m ρ2), fun σ2 H2 h2 => ⟨m, Nat.lt_succ_self _, h2⟩, F1, ρ1, s1, ?_⟩
        simp only [if_true, M.bind] at q1
        cases eb : mb ρ1 with
        | bad => simp only [eb] at q1; exact q1
        | ex x ρ4 => simp only [eb] at q1; exact q1
        | ok oo ρ4 =>
          simp only [eb] at q1
          cases oo with
          | nx => exact fun F4 H4 σ4 g4 s4 p4 => ⟨F4, ρ4, s4, q1.on g4 p4⟩
          | ct => exact fun F4 H4 σ4 g4 s4 p4 => ⟨F4, ρ4, s4, q1.on g4 p4⟩
          | bk => exact fun F4 H4 σ4 g4 s4 p4 => q1 F4 H4 σ4 g4 s4 p4
          | rt r => exact q1
def sUn (m : M PyData) (t : Tgt) : M Out := m.bind fun d => fun ρ => match t d ρ with
  | some ρ' => .ok .nx ρ'
  | none => .bad
theorem s_un {g : TG} {t : Tgt} {m : M PyData} {n : Nat} (he : PE X e (tD C m)) (hg : PG X tg g) (ht : TgOk C P n g t) (hN : X.N.length = n := by rfl) (hs : swapsWithSole [tg] e pos.line X.env = pure false := by rfl) (hw : swappedStores [tg] e X.env = pure none := by rfl)
    (h1 : (assignEach [tg] X.env).map (·.2) = [assign tg X.env] := by rfl) : PS X (.Assign [tg] e pos) (tS C P (sUn m t)) := by
  refine ⟨fun pins s σ H D I ⟨F, ρ, sr, p⟩ => (ps_asg he hg hs hw h1).run pins s σ H D I ⟨F, ρ, sr, p.part fun d ρ1 F1 H1 x q1 g1 s1 r1 => ?_⟩⟩
  cases et : t d ρ1 with
  | none => simp only [et] at q1; exact q1.elim
  | some ρ2 =>
    simp only [et] at q1
    exact ht x d σ ρ1 ρ2 F1 H1 _ (by rw [I.len, hN]) s1 r1 et fun σ3 s3 o3 p3 => q1 F1 H1 σ3 (Grow.refl.less o3) s3 p3
end
end Eg
namespace Eg
open PySem L2 PySem.W PySem.SeqAt
def wipeR (ρ : Rho) : List Nat → Rho
  | [] => ρ
  | v :: vs => (wipeR ρ vs).set v none
def restR (ρ0 ρ : Rho) : List Nat → Rho
  | [] => ρ
  | v :: vs => (restR ρ0 ρ vs).set v (ρ0[v]?.join)
theorem wipeR_len (ρ : Rho) : ∀ vs, (wipeR ρ vs).length = ρ.length
  | [] => rfl
  | v :: vs => by simp only [wipeR, List.length_set]; exact wipeR_len ρ vs
theorem restR_len (ρ0 ρ : Rho) : ∀ vs, (restR ρ0 ρ vs).length = ρ.length
  | [] => rfl
  | v :: vs => by simp only [restR, List.length_set]; exact restR_len ρ0 ρ vs
theorem wipeR_out {ρ : Rho} {j : Nat} : ∀ {vs : List Nat}, j ∉ vs → (wipeR ρ vs)[j]? = ρ[j]?
  | [], _ => rfl
  | v :: vs, h => by
    rw [List.mem_cons, not_or] at h
    simp only [wipeR]
    rw [List.getElem?_set_ne (fun z => h.1 z.symm)]
    exact wipeR_out h.2
theorem wipeR_in {ρ : Rho} {j : Nat} {o : OD} : ∀ {vs : List Nat}, j ∈ vs → (wipeR ρ vs)[j]? ≠ some (some o)
  | v :: vs, h, e => by
    simp only [wipeR] at e
    by_cases q : v = j
    · subst q
      by_cases hl : v < (wipeR ρ vs).length
      · rw [List.getElem?_set_self hl] at e; cases e
      · rw [List.getElem?_eq_none (by rw [List.length_set]; omega)] at e; cases e
    · rw [List.getElem?_set_ne q] at e
      rcases List.mem_cons.mp h with z | z
      · exact q z.symm
      · exact wipeR_in z e
theorem wipe_out {σ : St} {j : Nat} : ∀ {vs : List Nat}, j ∉ vs → (wipe σ vs)[j]? = σ[j]?
  | [], _ => rfl
  | v :: vs, h => by
    rw [List.mem_cons, not_or] at h
    simp only [wipe]
    rw [List.getElem?_set_ne (fun z => h.1 z.symm)]
    exact wipe_out h.2
theorem wipe_in {σ : St} {j : Nat} : ∀ {vs : List Nat}, j ∈ vs → (wipe σ vs)[j]? = if j < σ.length then some none else none
  | v :: vs, h => by
    simp only [wipe]
    by_cases q : v = j
    · subst q
      by_cases hl : v < σ.length
      · rw [if_pos hl, List.getElem?_set_self (by rw [wipe_length]; exact hl)]
      · rw [if_neg hl, List.getElem?_eq_none (by rw [List.length_set, wipe_length]; omega)]
    · rw [List.getElem?_set_ne q]
      rcases List.mem_cons.mp h with z | z
      · exact absurd z.symm q
      · exact wipe_in z
theorem wipe_ext {σ τ : St} {vs : List Nat} (hl : σ.length = τ.length) (h : ∀ j, j < τ.length → j ∉ vs → σ[j]? = τ[j]?) : wipe σ vs = wipe τ vs := by
  refine List.ext_getElem? fun j => ?_
  by_cases q : j ∈ vs
  · rw [wipe_in q, wipe_in q, hl]
  · rw [wipe_out q, wipe_out q]
    by_cases hj : j < τ.length
    · exact h j hj q
    · rw [List.getElem?_eq_none (by omega), List.getElem?_eq_none (by omega)]
theorem wipe_wipe (σ : St) (vs : List Nat) : wipe (wipe σ vs) vs = wipe σ vs := wipe_ext (wipe_length σ vs) fun j _ q => wipe_out q
theorem restR_out {ρ0 ρ : Rho} {j : Nat} : ∀ {vs : List Nat}, j ∉ vs → (restR ρ0 ρ vs)[j]? = ρ[j]?
  | [], _ => rfl
  | v :: vs, h => by
    rw [List.mem_cons, not_or] at h
    simp only [restR]
    rw [List.getElem?_set_ne (fun z => h.1 z.symm)]
    exact restR_out h.2
theorem restR_in {ρ0 ρ : Rho} {j : Nat} {o : OD} : ∀ {vs : List Nat}, j ∈ vs → (restR ρ0 ρ vs)[j]? = some (some o) → ρ0[j]? = some (some o)
  | v :: vs, h, e => by
    simp only [restR] at e
    by_cases q : v = j
    · subst q
      by_cases hl : v < (restR ρ0 ρ vs).length
      · rw [List.getElem?_set_self hl] at e
        have e := Option.some.inj e
        cases q2 : ρ0[v]? with
        | none => rw [q2] at e; cases e
        | some x => rw [q2] at e; exact congrArg some e
      · rw [List.getElem?_eq_none (by rw [List.length_set]; omega)] at e; cases e
    · rw [List.getElem?_set_ne q] at e
      rcases List.mem_cons.mp h with z | z
      · exact absurd z.symm q
      · exact restR_in z e
section
variable [Tbs] {K : Kw} {σ τ : St} {ρ ρ1 : Rho} {F H F1 H1 : Hp} {vs : List Nat}
theorem SR.wipes (s : SR K F H σ ρ) (vs : List Nat) : SR K F H (L2.wipe σ vs) (wipeR ρ vs) := by
  have go : ∀ {j : Nat} {o : OD}, (wipeR ρ vs)[j]? = some (some o) → ρ[j]? = some (some o) ∧ j ∉ vs := fun {j o} h => by
    by_cases q : j ∈ vs
    · exact absurd h (wipeR_in q)
    · exact ⟨by rw [← wipeR_out q]; exact h, q⟩
  refine ⟨s.sub, by rw [wipe_length, wipeR_len]; exact s.len, fun j o h => ?_, fun j k o o' a ne h1 i1 h2 i2 h3 h4 => ?_, s.tb⟩
  · obtain ⟨h1, q⟩ := go h
    obtain ⟨v, e, r⟩ := s.sl j o h1
    exact ⟨v, by rw [wipe_out q]; exact e, r⟩
  · obtain ⟨g1, q1⟩ := go h1
    obtain ⟨g2, q2⟩ := go h2
    rw [wipe_out q1] at h3
    rw [wipe_out q2] at h4
    exact s.sep j k o o' a ne g1 i1 g2 i2 h3 h4
theorem own.wipes {b : Addr} (h : own (L2.wipe σ vs) (wipeR ρ vs) b) : own σ ρ b ∧ ∃ (i : Nat) (o : OD), i ∉ vs ∧ ρ[i]? = some (some o) ∧ o.isO = true ∧ σ[i]? = some (some (V.ref b)) := by
  obtain ⟨i, o, e1, e2, e3⟩ := h
  by_cases q : i ∈ vs
  · exact absurd e1 (wipeR_in q)
  · rw [wipeR_out q] at e1
    rw [wipe_out q] at e3
    exact ⟨⟨i, o, e1, e2, e3⟩, i, o, q, e1, e2, e3⟩
theorem Grow.wide {ow ow' ow1 : Addr → Prop} (g : Grow ow ow1 F H F1 H1) (h : ∀ b, ow b → ow' b) : Grow ow' ow1 F H F1 H1 :=
  ⟨g.ext, fun b o e t n => g.keep b o e t fun z => n (h b z), fun b ps e n => g.kt b ps e fun z => n (h b z), fun b z => (g.new b z).imp id fun z => z.imp id (h b), fun b z => (g.ows b z).imp (h b) id⟩
theorem SR.rest (s : SR K F H σ ρ) (s1 : SR K F1 H1 (L2.wipe σ vs) (wipeR ρ1 vs)) (hl : ρ1.length = ρ.length) (g : Grow (own (L2.wipe σ vs) (wipeR ρ vs)) (own (L2.wipe σ vs) (wipeR ρ1 vs)) F H F1 H1) :
    SR K F1 H1 σ (restR ρ ρ1 vs) ∧ Grow (own σ ρ) (own σ (restR ρ ρ1 vs)) F H F1 H1 := by
  -- an owned thing of a wiped slot is owned by none of the others
  have lone : ∀ (j : Nat) (o : OD) (a : Addr), j ∈ vs → ρ[j]? = some (some o) → o.isO = true → σ[j]? = some (some (V.ref a)) → ¬ own (L2.wipe σ vs) (wipeR ρ vs) a := fun j o a hj e io ea z => by
    obtain ⟨_, i, o', q, e1, e2, e3⟩ := own.wipes z
    exact s.sep j i o o' a (fun w => q (w ▸ hj)) e io e1 e2 ea e3
  have old : ∀ (j : Nat) (o : OD), j ∈ vs → ρ[j]? = some (some o) → ∃ v, σ[j]? = some (some v) ∧ OR K F1 H1 v o := fun j o hj e => by
    obtain ⟨v, ev, r⟩ := s.sl j o e
    refine ⟨v, ev, r.keep g.ext fun a ha io => ?_⟩
    subst ha
    have nl := lone j o a hj e io ev
    obtain ⟨fa, u, hu⟩ := own.at s ⟨j, o, e, io, ev⟩
    refine ⟨?_, fun u' hu' nt => g.keep a u' hu' nt nl⟩
    cases q : F1 a with
    | none => rfl
    | some x =>
      rcases g.new a (by rw [q]; simp) with z | z | z
      · exact absurd fa z
      · rw [hu] at z; cases z
      · exact absurd z nl
  have cs : ∀ {j : Nat} {o : OD}, (restR ρ ρ1 vs)[j]? = some (some o) → (j ∈ vs ∧ ρ[j]? = some (some o)) ∨ (j ∉ vs ∧ (wipeR ρ1 vs)[j]? = some (some o)) := fun {j o} h => by
    by_cases q : j ∈ vs
    · exact .inl ⟨q, restR_in q h⟩
    · rw [restR_out q] at h
      exact .inr ⟨q, by rw [wipeR_out q]; exact h⟩
  have mix : ∀ (j k : Nat) (o o' : OD) (a : Addr), j ∈ vs → ρ[j]? = some (some o) → o.isO = true → k ∉ vs → (wipeR ρ1 vs)[k]? = some (some o') → o'.isO = true → σ[j]? = some (some (V.ref a)) → σ[k]? ≠ some (some (V.ref a)) := fun j k o o' a hj e io hk e' io' ea ek => by
    have z : own (L2.wipe σ vs) (wipeR ρ1 vs) a := ⟨k, o', e', io', by rw [wipe_out hk]; exact ek⟩
    obtain ⟨fa, u, hu⟩ := own.at s ⟨j, o, e, io, ea⟩
    rcases g.ows a z with y | y
    · exact lone j o a hj e io ea y
    · rw [hu] at y; cases y
  refine ⟨⟨s1.sub, by rw [restR_len, hl]; exact s.len, fun j o h => ?_, fun j k o o' a ne h1 i1 h2 i2 h3 h4 => ?_, s1.tb⟩, ⟨g.ext, fun b o e t n => g.keep b o e t fun z => n (own.wipes z).1, fun b ps e n => g.kt b ps e fun z => n (own.wipes z).1, fun b z => (g.new b z).imp id fun z => z.imp id fun z => (own.wipes z).1, fun b ⟨i, o, e1, e2, e3⟩ => ?_⟩⟩
  · rcases cs h with ⟨q, e⟩ | ⟨q, e⟩
    · exact old j o q e
    · obtain ⟨v, ev, r⟩ := s1.sl j o e
      rw [wipe_out q] at ev
      exact ⟨v, ev, r⟩
  · rcases cs h1 with ⟨q1, e1⟩ | ⟨q1, e1⟩ <;> rcases cs h2 with ⟨q2, e2⟩ | ⟨q2, e2⟩
    · exact s.sep j k o o' a ne e1 i1 e2 i2 h3 h4
    · exact mix j k o o' a q1 e1 i1 q2 e2 i2 h3 h4
    · exact mix k j o' o a q2 e2 i2 q1 e1 i1 h4 h3
    · exact s1.sep j k o o' a ne e1 i1 e2 i2 (by rw [wipe_out q1]; exact h3) (by rw [wipe_out q2]; exact h4)
  · rcases cs e1 with ⟨q, e⟩ | ⟨q, e⟩
    · exact .inl ⟨i, o, e, e2, e3⟩
    · exact (g.ows b ⟨i, o, e, e2, by rw [wipe_out q]; exact e3⟩).imp (fun z => (own.wipes z).1) id
end
def lcGo (t : Tgt) (tests : M Bool) (elt : M PyData) (vs : List Nat) : List PyData → List PyData → M (List PyData)
  | [], acc => M.ret acc
  | x :: xs, acc => fun ρ => match t x (wipeR ρ vs) with
    | none => .bad
    | some ρ1 => match tests ρ1 with
      | .ok false ρ2 => lcGo t tests elt vs xs acc ρ2
      | .ok true ρ2 => (match elt ρ2 with
        | .ok d ρ3 => if acc.length < sizeLine then lcGo t tests elt vs xs (acc ++ [d]) ρ3 else .bad
        | _ => .bad)
      | _ => .bad
def mComp (src : M (List PyData)) (t : Tgt) (tests : M Bool) (elt : M PyData) (vs : List Nat) : M OD := src.bind fun xs => fun ρ => match lcGo t tests elt vs xs [] ρ with
  | .ok acc ρ' => if ρ'.length = ρ.length then .ok (.ol acc) (restR ρ ρ' vs) else .bad
  | _ => .bad
abbrev Ct.quiet (C : Ct) : Ct := ⟨C.K, fun _ _ _ _ => False, C.XR⟩
section
variable [Tbs] {X : Cx} {C : Ct} {e elt tg iter : Expr} {ifs : List Expr} {pos : Pos}
theorem c_nil : PTs X ifs tYes → PTs X ifs (tT C (M.ret true)) := fun h => ⟨fun pins s σ H Q I ⟨F, ρ, sr, p⟩ => h.run pins s σ H Q I (p F H true Grow.refl sr rfl)⟩
theorem c_none : PTs X [] (tT C (M.ret true)) := c_nil pts_nil
theorem c_one {c : Expr} {m : M Bool} (h : PT X c (tT C m)) : PTs X [c] (tT C m) := pts_one h
def outs (n : Nat) (vs : List Nat) : List Nat := (List.range n).filter fun i => !vs.contains i
theorem mem_outs {n j : Nat} {vs : List Nat} (h : j < n) (q : j ∉ vs) : j ∈ outs n vs := by
  unfold outs
  rw [List.mem_filter]
  exact ⟨List.mem_range.mpr h, by simpa using q⟩
theorem lc_read {g : TG} {t : Tgt} {src : M (List PyData)} {mt : M Bool} {me : M PyData} {vs : List Nat} {n : Nat} {σ : St} {H : Hp} {Q : VK} (hn : σ.length = n) (ht : TgOk C.quiet (outs n vs) n g t)
    (h : tO C (mComp src t mt me vs) σ H Q) : tLc (tI C src) g (tT C.quiet mt) (tD C.quiet me) vs σ H Q := by
  obtain ⟨F, ρ, sr, p⟩ := h
  refine ⟨F, ρ, sr, p.part fun xs ρ1 F1 H1 J e1 q1 g1 s1 wk => fun D hD => ?_⟩
  have q1 := q1.on stb_O g1
  -- the whole run
  obtain ⟨accF, ρF, eF, hlF⟩ : ∃ accF ρF, lcGo t mt me vs xs [] ρ1 = .ok accF ρF ∧ ρF.length = ρ1.length := by
    cases e : lcGo t mt me vs xs [] ρ1 with
    | ok a r =>
      simp only [e] at q1
      split at q1
      · rename_i hz; exact ⟨a, r, rfl, hz⟩
      · exact q1.elim
    | _ => simp only [e] at q1; exact q1.elim
  simp only [eF, hlF, if_true] at q1
  have f1D : F1 D = none := s1.sub.free hD
  have nD1 : ¬ own (wipe σ vs) (wipeR ρ1 vs) D := fun z => by
    obtain ⟨_, u, hu⟩ := own.at (s1.wipes vs) z
    rw [hD] at hu; cases hu
  have sD : SR C.K F1 (upd H1 D (.lst [])) (wipe σ vs) (wipeR ρ1 vs) := (s1.fresh hD).wipes vs
  refine ⟨fun i m H' => m = xs.length - i ∧ i ≤ xs.length ∧ ∃ F' ρ' acc accV, SR C.K F' H' (wipe σ vs) (wipeR ρ' vs) ∧ Grow (own (wipe σ vs) (wipeR ρ1 vs)) (own (wipe σ vs) (wipeR ρ' vs)) F1 H1 F' H' ∧
    ¬ own (wipe σ vs) (wipeR ρ' vs) D ∧ F' D = none ∧ H' D = some (.lst accV) ∧ DVs C.K F' accV acc ∧ lcGo t mt me vs (xs.drop i) acc ρ' = .ok accF ρF,
    ⟨xs.length, by simp, Nat.zero_le _, F1, ρ1, [], [], sD, Grow.fresh hD, nD1, f1D, upd_same, .nil, by rw [List.drop_zero]; exact eF⟩, ?_⟩
  rintro i m H' ⟨rfl, hil, F', ρ', acc, accV, s', gw, nD, fD, eD, dv, er⟩
  obtain ⟨w1, w2⟩ := wk F' H' i gw.ext s'.sub
  by_cases hlt : i < xs.length
  · obtain ⟨x, ex⟩ : ∃ x, xs[i] = x := ⟨_, rfl⟩
    obtain ⟨go, yl⟩ := w2 x (by rw [← ex]; simp [hlt])
    rw [List.drop_eq_getElem_cons hlt, ex] at er
    simp only [lcGo] at er
    refine .inr ⟨go, fun H2 => ∃ F' ρ' acc accV, SR C.K F' H2 (wipe σ vs) (wipeR ρ' vs) ∧ Grow (own (wipe σ vs) (wipeR ρ1 vs)) (own (wipe σ vs) (wipeR ρ' vs)) F1 H1 F' H2 ∧
      ¬ own (wipe σ vs) (wipeR ρ' vs) D ∧ F' D = none ∧ H2 D = some (.lst accV) ∧ DVs C.K F' accV acc ∧ lcGo t mt me vs (xs.drop (i + 1)) acc ρ' = .ok accF ρF, fun H2 h2 => ⟨xs.length - (i + 1), by omega, rfl, by omega, h2⟩, fun v H2 y => ?_⟩
    obtain ⟨F2, al⟩ := yl v H2 y
    cases et : t x (wipeR ρ' vs) with
    | none => simp only [et] at er; cases er
    | some ρ2 =>
      simp only [et] at er
      have st : SR C.K F2 H2 (wipe σ vs) (wipeR ρ' vs) ∧ Grow (own (wipe σ vs) (wipeR ρ' vs)) (own (wipe σ vs) (wipeR ρ' vs)) F' H' F2 H2 ∧ DV C.K F2 v x ∧ F2 D = none ∧ H2 D = some (.lst accV) := by
        cases al with
        | asis h => exact ⟨s', Grow.refl, h, fD, eD⟩
        | tup hp h =>
          have fp := s'.sub.free hp
          have ne := ne_of_none eD hp
          exact ⟨s'.laid hp, Grow.laid hp fp, .tup (.inl (.inl upd_same)) (h.upd fp), by rw [upd_ne ne]; exact fD, by rw [upd_ne ne]; exact eD⟩
      obtain ⟨s2, g2, dx, fD2, eD2⟩ := st
      refine ht v x (wipe σ vs) (wipeR ρ' vs) ρ2 F2 H2 _ (by rw [wipe_length]; exact hn) s2 dx et fun σ3 s3 o3 p3 => ?_
      have ew : wipe σ3 vs = wipe σ vs := by
        rw [← wipe_wipe σ vs]
        exact wipe_ext p3.1 fun j hj q => p3.2 j (mem_outs (by rw [wipe_length, hn] at hj; exact hj) q)
      have g3 : Grow (own (wipe σ vs) (wipeR ρ' vs)) (own σ3 ρ2) F' H' F2 H2 := g2.less o3
      have nD3 : ¬ own σ3 ρ2 D := fun z => nD (o3 D z)
      refine ⟨ew, F2, ρ2, s3, ?_⟩
      -- behind the tests
      cases emt : mt ρ2 with
      | bad => simp only [emt] at er; cases er
      | ex x r => simp only [emt] at er; cases er
      | ok k ρ3 =>
        simp only [emt] at er
        intro F3 H3 k' g4 s4 ek
        subst ek
        have nD4 : ¬ own σ3 ρ3 D := fun z => (g4.ows D z).elim nD3 fun y => by rw [eD2] at y; cases y
        have fD4 : F3 D = none := by
          cases q : F3 D with
          | none => rfl
          | some u =>
            rcases g4.new D (by rw [q]; simp) with z | z | z
            · exact absurd fD2 z
            · rw [eD2] at z; cases z
            · exact absurd z nD3
        have eD4 : H3 D = some (.lst accV) := g4.keep D _ eD2 (fun _ z => by cases z) nD3
        have back : ∀ {F5 H5 : Hp} {ρ5 : Rho}, SR C.K F5 H5 σ3 ρ5 → SR C.K F5 H5 (wipe σ vs) (wipeR ρ5 vs) := fun {F5 H5 ρ5} s => by
          have := s.wipes vs
          rw [ew] at this
          exact this
        have lessW : ∀ {ρ5 : Rho} {b : Addr}, own (wipe σ vs) (wipeR ρ5 vs) b → own σ3 ρ5 b := fun {ρ5 b} z => by
          rw [← ew] at z
          exact (own.wipes z).1
        cases k' with
        | false =>
          simp only at er
          rw [if_neg Bool.false_ne_true]
          exact ⟨F3, ρ3, acc, accV, back s4, (gw.trans (g3.trans g4)).less fun b z => lessW z, fun z => nD4 (lessW z), fD4, eD4, DVs.mono (g3.trans g4).ext dv, er⟩
        | true =>
          simp only at er
          rw [if_pos rfl]
          refine ⟨F3, ρ3, s4, ?_⟩
          cases eme : me ρ3 with
          | bad => simp only [eme] at er; cases er
          | ex x r => simp only [eme] at er; cases er
          | ok d ρ5 =>
            simp only [eme] at er
            split at er
            · rename_i hz
              intro F5 H5 y5 g5 s5 r5
              have nD5 : ¬ own σ3 ρ5 D := fun z => (g5.ows D z).elim nD4 fun y => by rw [eD4] at y; cases y
              have fD5 : F5 D = none := by
                cases q : F5 D with
                | none => rfl
                | some u =>
                  rcases g5.new D (by rw [q]; simp) with z | z | z
                  · exact absurd fD4 z
                  · rw [eD4] at z; cases z
                  · exact absurd z nD4
              have eD5 : H5 D = some (.lst accV) := g5.keep D _ eD4 (fun _ z => by cases z) nD4
              have gl := g3.trans (g4.trans g5)
              have s6 : SR C.K F5 (upd H5 D (.lst (accV ++ [y5]))) σ3 ρ5 := s5.on (Same.refl _) (fun b u q => by rw [upd_ne (ne_of_none q fD5)]; exact s5.sub b u q) (s5.tb.wr eD5 (fun _ z => by cases z)) fun a ha => by
                obtain ⟨fa, u, hu⟩ := own.at s5 ha
                exact ⟨fa, fun u' q _ => by rw [upd_ne (fun z => nD5 (by rw [← z]; exact ha))]; exact q⟩
              refine ⟨accV, eD5, by rw [dv.len]; exact hz, F5, ρ5, acc ++ [d], accV ++ [y5], back s6, ?_, fun z => nD5 (lessW z), fD5, upd_same, (DVs.mono gl.ext dv).append (.cons r5 .nil), er⟩
              have gall := gw.trans gl
              refine ⟨gall.ext, fun b o q t n => ?_, fun b ps q n => ?_, gall.new, fun b z => gall.ows b (lessW z)⟩
              · rw [upd_ne (ne_of_none q hD)]
                exact gall.keep b o q t n
              · rw [upd_ne (ne_of_none q hD)]
                exact gall.kt b ps q n
            · cases er
  · have ei : i = xs.length := by omega
    subst ei
    rw [List.drop_length] at er
    simp only [lcGo, M.ret] at er
    cases er
    obtain ⟨sf, gf⟩ := s1.rest s' hlF gw
    refine .inl ⟨w1 (Nat.le_refl _), q1 F' H' (.ref D) gf sf ⟨⟨D, accV, rfl, fD, eD, dv⟩, fun _ a ea => ?_⟩⟩
    cases ea
    refine ⟨fun z => ?_, .inl hD⟩
    rcases gf.ows D z with y | y
    · obtain ⟨_, u, hu⟩ := own.at s1 y
      rw [hD] at hu; cases hu
    · -- new and a slot's own: then one of the block's, which none is
      obtain ⟨j, o, e1, e2, e3⟩ := z
      by_cases q : j ∈ vs
      · obtain ⟨_, u, hu⟩ := own.at s1 ⟨j, o, restR_in q e1, e2, e3⟩
        rw [hD] at hu; cases hu
      · rw [restR_out q] at e1
        exact nD ⟨j, o, by rw [wipeR_out q]; exact e1, e2, by rw [wipe_out q]; exact e3⟩
theorem o_comp {g : TG} {t : Tgt} {src : M (List PyData)} {mt : M Bool} {me : M PyData} {n : Nat} {scope : Scope} {own : List (Str × Nat)} (hc : X.calm = true) (hN : X.N.Nodup) (hi : PI X tg iter (tI C src)) (ok : BlkOk X.N X.env.scope scope own)
    (hg : ∀ (s : Shared) (H : Hp) (D : Addr) (cl : List (Str × Addr)) (fp : List Addr), PG (X.blk s H scope (compEnvC scope cl D X.env) fp) tg g) (htg : TgOk C.quiet (outs n (own.map (·.2))) n g t)
    (ht : ∀ (s : Shared) (H : Hp) (D : Addr) (cl : List (Str × Addr)) (fp : List Addr), PTs (X.blk s H scope (compEnvC scope cl D X.env) fp) ifs (tT C.quiet mt))
    (he : ∀ (s : Shared) (H : Hp) (D : Addr) (cl : List (Str × Addr)) (fp : List Addr), PE (X.blk s H scope (compEnvC scope cl D X.env) fp) elt (tD C.quiet me)) (hL : X.N.length = n := by rfl) (hs : ∀ x, foldedSetIterable iter X.env x = pure x := by intro _; rfl) :
    PE X (.ListComp elt [⟨tg, iter, ifs, 0⟩] scope pos) (tO C (mComp src t mt me (own.map (·.2)))) :=
  ⟨fun pins s σ H Q I q => (pe_lc hc hN hi ok hg ht he hs).run pins s σ H Q I (lc_read (by rw [I.len, hL]) htg q)⟩
end
end Eg
namespace Eg
open PySem L2 PySem.W PySem.SeqAt
open PyProof.Rows (envOfC)
structure FnG (P : Program) (w : World) (K : PySem.W.Frag) (mg : Str → Option Value) (base : Heap) (CX : CXT) (k : Nat) (f : Addr) (fd : FuncData) (ps : List Str) (sp : Sp) : Prop where
  len : ∀ vs H Q E, sp vs H Q E → ps.length = vs.length
  run : ∀ (A : Around) (outer : List Env) (s : Shared) (H : Hp) (args : Args) (us : List Value) (vs : List V) (Q : VK) (E : XK), A.guards = some [] → Room k A → Env0 P w K mg base A outer s H → BindsTo s fd args (ps.zip us) → Vals vs us →
    sp vs H Q E → codeAny (model P w) A (.call (.ref f) args) (CR CX outer P w H s Q E) s
section
variable {P : Program} {w : World} {K : PySem.W.Frag} {mg : Str → Option Value} {base : Heap} {CX : CXT} {k : Nat}
theorem FnG.mono {j : Nat} {f : Addr} {fd : FuncData} {ps : List Str} {sp : Sp} (F : FnG P w K mg base CX j f fd ps sp) (h : j ≤ k) : FnG P w K mg base CX k f fd ps sp :=
  ⟨F.len, fun A outer s H args us vs Q E g r => F.run A outer s H args us vs Q E g (r.mono h)⟩
theorem fnG_of {x qual : Str} {st : Stmt} {f : Addr} {fd : FuncData} {N ps : List Str} {sp : Sp} (F : Fun K x qual st f fd) (S : FnScope N ps (defScope st)) (hlen : ∀ vs H Q E, sp vs H Q E → ps.length = vs.length)
    (hb : ∀ (cdv : Value) (A : Around) (outer : List Env) (s : Shared) (H : Hp) (vs : List V) (Q : VK) (E : XK), A.guards = some [] → Room k (A.deeper (envOfC qual (defScope st) s.heap.objs.size f cdv)) → sp vs H Q E →
      ∃ t, PSs (cxOf CX P w K mg base N qual (defScope st) f cdv A outer s H E) (defBody st) t ∧ t { nx := fun _ H' => Q .non H', rt := Q } (start N vs) H) : FnG P w K mg base CX (k + 1) f fd ps sp := by
  obtain ⟨oc, od, kV, doc, pm, an, cdv, ct, osl, rfl, lk, hcd⟩ := F.ex
  refine ⟨hlen, fun A outer s H args us vs Q E hg hr e0 bd rv h => ?_⟩
  have hl := (hlen vs H Q E h).symm
  have inK : K.In s.heap := e0.mod.kin.keeps fun b o e => (e0.bs b o e).1
  have par : ∀ y ∈ ps.zip us, (defScope st).names.lookup y.1 = some .local ∨ ((defScope st).names.lookup y.1 = some .cell ∧ ((cellsFrom (s.heap.objs.size + 1) (defScope st).names []).lookup y.1).isSome = true) := fun y hy =>
    (S.par y.1 (List.of_mem_zip (a := y.1) (b := y.2) hy).1).imp id fun q => ⟨q, PySem.W.cellsFrom_some _ _ _ (.inl q)⟩
  refine codeAny_call_function hr.depth (inK _ _ lk) rfl S.co S.gen rfl (PySem.W.codeRec_of inK hcd) (bd _ _ _ _ (wpAny_newFunctionEnv_cells S.kind par fun env he s1 x => ?_))
  subst he
  refine ⟨(e0.mod.nolimit.keeps fun b o e => (e0.bs b o e).1).keeps x.toInCall.keep, codeAny_func ?_⟩
  obtain ⟨t, ht, hq⟩ := hb cdv A outer s H vs Q E hg (hr.deeper _) h
  have I : Inv (cxOf CX P w K mg base N qual (defScope st) f cdv A outer s H E) [] (start N vs) H s1 := inv_start S hr.hd e0 hl rv x
  refine wpAny_mono (ht.run [] s1 _ H _ I hq) (fun fl s' q => ?_) fun _ _ q => q
  match fl, q with
  | .ret u, ⟨v, σ', H', J, r, q⟩ => exact ⟨v, H', J.os, J.bare, J.base, J.hok, r, q⟩
  | .next, ⟨σ', H', J, q⟩ => exact ⟨.non, H', J.os, J.bare, J.base, J.hok, rfl, q⟩
  | .brk, ⟨_, _, _, q⟩ => exact q.elim
  | .cont, ⟨_, _, _, q⟩ => exact q.elim
end
section
variable [Tbs] {X : Cx} {C : Ct} {e a b : Expr} {es : List Expr} {pos p : Pos} {CX : CXT} {k : Nat} {f : Addr} {fd : FuncData} {ps : List Str} {sp : Sp} {x : Str}
theorem run_G {pins : List (Addr × Obj)} {σ : St} {H : Hp} {s : Shared} {Q : VK} {us : List Value} {vs : List V} {ds : List Value} {E : XK} (F : FnG X.prog X.w X.K X.mg X.base CX k f fd ps sp) (hg : X.A.guards = some []) (hr : Room k X.A) (hb : Binds X.K fd ps ds) (hx : PassesAt CX X σ E)
    (I : Inv X pins σ H s) (r : Vals vs (us ++ ds)) (h : sp vs H Q E) : wpAny (model X.prog X.w) X.A (call (.ref f) us) (EP X pins σ Q) X.xe s := by
  have hl : (us ++ ds).length = ps.length := by rw [← r.length]; exact (F.len _ _ _ _ h).symm
  refine wpAny_call (codeAny_mono (F.run X.A X.stack s H ⟨us, []⟩ (us ++ ds) vs Q E hg hr I.env0 (hb s us I.kIn hl) r h) fun res s' q => ?_)
  match res, q with
  | .error e, q => exact hx pins H s e s' I q
  | .ok (.ret u), q => exact I.after q
abbrev Fn := M OD
def spI (K : PySem.W.Frag) (w : World) (mg : Str → Option Value) (XR : Hp → Hp → Value → Option Addr → Xc → Prop) (n : Nat) (m : Fn) : Sp := fun vs H Q E => vs.length = n ∧ ∃ (F : Hp) (os : List OD), SR ⟨K, w, mg, none, none⟩ F H (vs.map some) (os.map some) ∧ PostE ⟨⟨K, w, mg, none, none⟩, fun cls d _ H' => E cls d H', XR⟩ (rO ⟨K, w, mg, none, none⟩) (vs.map some) (os.map some) F H Q (m (os.map some))
def keepIo (io : List Bool) (ρ : Rho) : Rho := List.zipWith (fun b o => if b = true then o else none) io ρ
def fnM (n : Nat) (io : List Bool) (body : M Out) : Fn := fun ρ => match body (ρ ++ List.replicate n none) with
  | .ok (.rt r) ρ' => .ok r (keepIo io ρ')
  | .ok .nx ρ' => .ok (.sh .none) (keepIo io ρ')
  | .ex x ρ' => .ex x (keepIo io ρ')
  | _ => .bad
def ioIx (io : List Bool) : List Nat := (List.range io.length).filter fun i => io.getD i false
theorem keepIo_at {io : List Bool} {ρ : Rho} {j : Nat} {o : OD} (h : (keepIo io ρ)[j]? = some (some o)) : ρ[j]? = some (some o) ∧ j ∈ ioIx io ∧ j < io.length := by
  unfold keepIo at h
  rw [List.getElem?_zipWith] at h
  cases e1 : io[j]? with
  | none => rw [e1] at h; cases h
  | some b =>
    cases e2 : ρ[j]? with
    | none => rw [e1, e2] at h; cases h
    | some x =>
      rw [e1, e2] at h
      cases b with
      | false => cases h
      | true =>
        have hl : j < io.length := (List.getElem?_eq_some_iff.mp e1).1
        refine ⟨by simpa using h, ?_, hl⟩
        unfold ioIx
        rw [List.mem_filter]
        exact ⟨List.mem_range.mpr hl, by simp [List.getD, e1]⟩
theorem SR.start {K : Kw} {F H : Hp} {vs : List V} {os : List OD} (s : SR K F H (vs.map some) (os.map some)) (m : Nat) : SR K F H (vs.map some ++ List.replicate m none) (os.map some ++ List.replicate m none) ∧
    ∀ b, own (vs.map some ++ List.replicate m none) (os.map some ++ List.replicate m none) b → own (vs.map some) (os.map some) b := by
  have hl : os.length = vs.length := by have := s.len; simpa using this
  have lo : ∀ {j : Nat} {o : OD}, (os.map some ++ List.replicate m (none : Option OD))[j]? = some (some o) → j < os.length ∧ (os.map some)[j]? = some (some o) := fun {j o} h => by
    by_cases q : j < os.length
    · rw [List.getElem?_append_left (by simpa using q)] at h; exact ⟨q, h⟩
    · rw [List.getElem?_append_right (by simpa using Nat.le_of_not_lt q)] at h
      rw [List.getElem?_replicate] at h
      split at h <;> cases h
  have ro : ∀ {j : Nat}, j < os.length → (vs.map some ++ List.replicate m (none : Option V))[j]? = (vs.map some)[j]? := fun {j} q => List.getElem?_append_left (by simpa [← hl] using q)
  refine ⟨⟨s.sub, by simp [hl], fun j o h => ?_, fun j k o o' a ne h1 i1 h2 i2 h3 h4 => ?_, s.tb⟩, fun b ⟨j, o, e1, e2, e3⟩ => ?_⟩
  · obtain ⟨q, e⟩ := lo h
    rw [ro q]
    exact s.sl j o e
  · obtain ⟨q1, e1⟩ := lo h1
    obtain ⟨q2, e2⟩ := lo h2
    rw [ro q1] at h3
    rw [ro q2] at h4
    exact s.sep j k o o' a ne e1 i1 e2 i2 h3 h4
  · obtain ⟨q, e⟩ := lo e1
    rw [ro q] at e3
    exact ⟨j, o, e, e2, e3⟩
theorem SR.finish {K : Kw} {F H F' H' : Hp} {vs : List V} {os : List OD} {m : Nat} {io : List Bool} {σ' : St} {ρ' : Rho} (hn : vs.length = io.length) (s : SR K F H (vs.map some) (os.map some)) (s' : SR K F' H' σ' ρ')
    (g : Grow (own (vs.map some ++ List.replicate m none) (os.map some ++ List.replicate m none)) (own σ' ρ') F H F' H') (pr : Pres (vs.map some ++ List.replicate m none) σ' (ioIx io)) :
    SR K F' H' (vs.map some) (keepIo io ρ') ∧ Grow (own (vs.map some) (os.map some)) (own (vs.map some) (keepIo io ρ')) F H F' H' ∧ ∀ b, own (vs.map some) (keepIo io ρ') b → own σ' ρ' b := by
  have at' : ∀ {j : Nat}, j ∈ ioIx io → σ'[j]? = (vs.map some)[j]? := fun {j} h => by
    rw [pr.2 j h]
    have : j < io.length := List.mem_range.mp (List.mem_filter.mp h).1
    exact List.getElem?_append_left (by simpa [hn] using this)
  have ow : ∀ b, own (vs.map some) (keepIo io ρ') b → own σ' ρ' b := fun b ⟨j, o, e1, e2, e3⟩ => by
    obtain ⟨k1, k2, _⟩ := keepIo_at e1
    exact ⟨j, o, k1, e2, by rw [at' k2]; exact e3⟩
  have hlen : σ'.length = vs.length + m := by rw [pr.1]; simp
  refine ⟨⟨s'.sub, ?_, fun j o h => ?_, fun j k o o' a ne h1 i1 h2 i2 h3 h4 => ?_, s'.tb⟩, ((g.wide (s.start m).2).less ow), ow⟩
  · unfold keepIo
    rw [List.length_zipWith, s'.len, hlen, List.length_map, hn]
    omega
  · obtain ⟨k1, k2, _⟩ := keepIo_at h
    obtain ⟨v, e, r⟩ := s'.sl j o k1
    exact ⟨v, by rw [← at' k2]; exact e, r⟩
  · obtain ⟨k1, k2, _⟩ := keepIo_at h1
    obtain ⟨l1, l2, _⟩ := keepIo_at h2
    exact s'.sep j k o o' a ne k1 i1 l1 i2 (by rw [at' k2]; exact h3) (by rw [at' l2]; exact h4)
section
variable {P : Program} {w : World} {K : PySem.W.Frag} {mg : Str → Option Value} {base : Heap} {k : Nat} {XR : Hp → Hp → Value → Option Addr → Xc → Prop}
theorem okI {x qual : Str} {st : Stmt} {f : Addr} {fd : FuncData} {N ps : List Str} {body : M Out} (io : List Bool) (F : Fun K x qual st f fd) (S : FnScope N ps (defScope st)) (hps : ps.length = io.length) (hN : io.length ≤ N.length)
    (hb : ∀ (cdv : Value) (A : Around) (outer : List Env) (s : Shared) (H : Hp) (E : XK), A.guards = some [] → Room k (A.deeper (envOfC qual (defScope st) s.heap.objs.size f cdv)) →
      PSs (cxOf (L2.CX P w) P w K mg base N qual (defScope st) f cdv A outer s H E) (defBody st) (tS ⟨⟨K, w, mg, none, none⟩, fun cls d _ H' => E cls d H', XR⟩ (ioIx io) body)) :
    FnG P w K mg base (L2.CX P w) (k + 1) f fd ps (spI K w mg XR io.length (fnM (N.length - io.length) io body)) := by
  refine fnG_of F S (fun vs H Q E h => (h.1.trans hps.symm).symm) fun cdv A outer s H vs Q E hg hr h => ⟨_, hb cdv A outer s H E hg hr, ?_⟩
  obtain ⟨hn, F0, os, sr, p⟩ := h
  have est : L2.start N vs = vs.map some ++ List.replicate (N.length - io.length) none := by unfold L2.start; rw [hn]
  have s0 := sr.start (N.length - io.length)
  rw [est]
  refine ⟨F0, os.map some ++ List.replicate (N.length - io.length) none, s0.1, ?_⟩
  unfold fnM at p
  cases e : body (os.map some ++ List.replicate (N.length - io.length) none) with
  | bad => rw [e] at p; exact p
  | ex x ρ' =>
    rw [e] at p
    intro F' H' σ' cls d g s' pr xr
    obtain ⟨a1, a2, a3⟩ := sr.finish hn s' g pr
    exact p F' H' cls d a2 a1 xr
  | ok o ρ' =>
    rw [e] at p
    cases o with
    | nx =>
      intro F' H' σ' g s' pr
      obtain ⟨a1, a2, a3⟩ := sr.finish hn s' g pr
      exact p F' H' .non a2 a1 ⟨.non, fun z => by cases z⟩
    | rt r =>
      intro F' H' σ' v g s' pr ro nn
      obtain ⟨a1, a2, a3⟩ := sr.finish hn s' g pr
      exact p F' H' v a2 a1 ⟨ro, fun io a ea => ⟨fun z => (nn io a ea).1 (a3 a z), (nn io a ea).2.imp id (s0.2 a)⟩⟩
    | bk => exact p.elim
    | ct => exact p.elim
end
def argO (ρ : Rho) : Arg → Option OD
  | .dat d => some (.sh d)
  | .slot i => (ρ[i]?).join
  | .fr kvs => some (.sn kvs)
def argS (ρ : Rho) (a : Arg) : Option OD := match argO ρ a with
  | some (.sh d) => some (.sh d)
  | some (.sc ns) => some (.sc ns)
  | some (.sn kvs) => some (.sn kvs)
  | some (.sd kvs) => some (.sd kvs)
  | _ => none
def argsS (ρ : Rho) : List Arg → Option (List OD)
  | [] => some []
  | a :: as => do (← argS ρ a) :: (← argsS ρ as)
theorem argO_at {K : Kw} {F H : Hp} {σ : St} {ρ : Rho} {v : V} {a : Arg} {o : OD} {ρ0 : Rho} {H0 : Hp} (s : SR K F H σ ρ) (h : rA K F H σ ρ ρ0 H0 v a) (e : argO ρ a = some o) : OR K F H v o := by
  cases a with
  | dat d => cases e; exact h
  | fr kvs => cases e; exact h
  | slot i =>
    simp only [argO] at e
    cases q : ρ[i]? with
    | none => rw [q] at e; cases e
    | some x =>
      rw [q] at e
      have ex : x = some o := e
      subst ex
      obtain ⟨w, ew, r⟩ := s.sl i o q
      have h : σ[i]? = some (some v) := h
      rw [h] at ew; cases ew
      exact r
theorem argsS_at {K : Kw} {F H : Hp} {σ : St} {ρ : Rho} (s : SR K F H σ ρ) : ∀ {vs : List V} {as : List Arg} {os : List OD}, rAs K F σ vs as → argsS ρ as = some os → os.length = vs.length ∧ ∀ (j : Nat) (o : OD), os[j]? = some o → o.isO = false ∧ ∃ v, vs[j]? = some v ∧ OR K F H v o := fun {vs as} => by
  induction vs generalizing as with
  | nil => intro os r e; cases r; cases e; exact ⟨rfl, fun j o h => by simp at h⟩
  | cons v vs ih =>
    intro os r e
    have hd : ∃ a as', as = a :: as' ∧ rA K F H σ ρ ρ H v a ∧ rAs K F σ vs as' := by
      cases r with
      | dat h t => exact ⟨_, _, rfl, h, t⟩
      | slot h t => exact ⟨_, _, rfl, h, t⟩
      | fr h t => exact ⟨_, _, rfl, h, t⟩
    obtain ⟨a, as', rfl, ha, ht⟩ := hd
    simp only [argsS] at e
    cases e1 : argS ρ a with
    | none => rw [e1] at e; cases e
    | some o =>
      cases e2 : argsS ρ as' with
      | none => rw [e1, e2] at e; cases e
      | some os' =>
        rw [e1, e2] at e; cases e
        obtain ⟨h1, h2⟩ := ih ht e2
        refine ⟨by rw [List.length_cons, List.length_cons, h1], fun j o' h => ?_⟩
        cases j with
        | zero =>
          cases h
          unfold argS at e1
          cases e3 : argO ρ a with
          | none => rw [e3] at e1; cases e1
          | some o2 =>
            rw [e3] at e1
            have r := argO_at s ha e3
            cases o2 <;> cases e1 <;> exact ⟨rfl, v, rfl, r⟩
        | succ j => exact h2 j o' h
end
def mCall (f : Fn) (ms : M (List Arg)) : M OD := ms.bind fun as => fun ρ => match argsS ρ as with
  | some os => (match f (os.map some) with
    | .ok r _ => .ok r ρ
    | .ex x _ => .ex x ρ
    | .bad => .bad)
  | none => .bad
end Eg
namespace Eg
open PySem L2 PySem.W PySem.SeqAt
open PyProof.Rows (envOfC)
def mCallO (f : Fn) (ms : M (List Arg)) : M OD := ms.bind fun as => fun ρ => match as with
  | .slot i :: as' => (match ρ[i]?, argsS ρ as' with
    | some (some o), some os => if o.isO = true then (match f ((o :: os).map some) with
      | .ok r ρa => .ok r (ρ.set i (ρa[0]?.join))
      | .ex x ρa => .ex x (ρ.set i (ρa[0]?.join))
      | .bad => .bad) else .bad
    | _, _ => .bad)
  | _ => .bad
section
variable [Tbs] {K : Kw} {F F' H H' : Hp} {σ : St} {ρ ρa : Rho} {xs : List V} {os : List OD}
theorem SR.args (s : SR K F H σ ρ) (hl : os.length = xs.length) (h : ∀ (j : Nat) (o : OD), os[j]? = some o → o.isO = false ∧ ∃ v, xs[j]? = some v ∧ OR K F H v o) : SR K F H (xs.map some) (os.map some) ∧ ∀ b, ¬ own (xs.map some) (os.map some) b := by
  have lo : ∀ {j : Nat} {o : OD}, (os.map some)[j]? = some (some o) → os[j]? = some o := fun {j o} e => by
    rw [List.getElem?_map] at e
    cases q : os[j]? with
    | none => rw [q] at e; cases e
    | some z => rw [q] at e; cases e; rfl
  refine ⟨⟨s.sub, by simp [hl], fun j o e => ?_, fun j k o o' a ne e i1 => ?_, s.tb⟩, fun b ⟨j, o, e, i1, _⟩ => ?_⟩
  · obtain ⟨_, v, e1, r⟩ := h j o (lo e)
    exact ⟨v, by rw [List.getElem?_map, e1]; rfl, r⟩
  · rw [(h j o (lo e)).1] at i1; cases i1
  · rw [(h j o (lo e)).1] at i1; cases i1
theorem SR.after0 (s : SR K F H σ ρ) {σ1 : St} {ρ1 : Rho} (no : ∀ b, ¬ own σ1 ρ1 b) {σ2 : St} {ρ2 : Rho} (g : Grow (own σ1 ρ1) (own σ2 ρ2) F H F' H') (sub : Same F' H') (tb : TB F' H') : SR K F' H' σ ρ ∧ Grow (own σ ρ) (own σ ρ) F H F' H' := by
  refine ⟨s.on g.ext sub tb fun a ha => ?_, ⟨g.ext, fun b o e t _ => g.keep b o e t (no b), fun b ps e _ => g.kt b ps e (no b), fun b h => ?_, fun b h => .inl h⟩⟩
  · obtain ⟨h1, u, h2⟩ := own.at s ha
    refine ⟨?_, fun u' h t => g.keep a u' h t (no a)⟩
    cases q : F' a with
    | none => rfl
    | some z =>
      rcases g.new a (by rw [q]; simp) with w | w | w
      · exact absurd h1 w
      · rw [h2] at w; cases w
      · exact absurd w (no a)
  · rcases g.new b h with w | w | w
    · exact .inl w
    · exact .inr (.inl w)
    · exact absurd w (no b)
end
section
variable [Tbs] {X : Cx} {C : Ct} {e a b : Expr} {es : List Expr} {pos p : Pos} {k : Nat} {f : Addr} {fd : FuncData} {ps : List Str} {x : Str} {n : Nat} {m : Fn}
theorem o_call1 {ms : M (List Arg)} {G : (M (List Arg)) → M OD} (F : FnG X.prog X.w X.K X.mg X.base (L2.CX X.prog X.w) k f fd ps (spI X.K X.w X.mg C.XR n m)) (hG : X.A.guards = some []) (hr : Room k X.A) (hg : Gl X x) (hm : X.mg x = some (.ref f)) (hk : PySem.W.keepIn X.K (.ref f) = true) (hb : Binds X.K fd ps []) (tk : Takes X C.W) (ha : PA X (e :: es) (tL C ms))
    (hs : ∀ (σ : St) (ρ : Rho) (F0 H : Hp) (Q : VK), SR C.K F0 H σ ρ → PostE C (rO C.K) σ ρ F0 H Q (G ms ρ) → PostE C (rL C.K) σ ρ F0 H (fun vs H1 => spI X.K X.w X.mg C.XR n m vs H1 Q (WE C.W σ)) (ms ρ))
    (hdb : (x == ("__debug__" : Str)) = false := by decide) (he : starEach (e :: es) X.env = (false, eval e X.env) :: starEach es X.env := by rfl) (hpl : (backTo pos (starEach es X.env)).any (·.1) = false := by rfl) : PE X (.Call (.Name x p) (e :: es) [] pos) (tO C (G ms)) := by
  refine ⟨fun pins s σ H Q I ⟨F0, ρ, sr, pp⟩ => ?_⟩
  refine wpAny_Call_Name_kw (ld_glob I hg hm ?_ hdb)
  refine PySem.W.callWith_K (h₀ := X.base) I.ok.mod.kin hk (thn (ha.run pos pins s σ H _ I ⟨F0, ρ, sr, hs σ ρ F0 H Q sr pp⟩) fun us s1 ⟨vs, H1, I1, r, q⟩ => ⟨I1.kIn, ?_⟩) he hpl
  exact run_G (ds := []) (E := WE C.W σ) F hG hr hb (passAt tk σ) I1 (by rw [List.append_nil]; exact r) q
theorem o_fn {ms : M (List Arg)} (F : FnG X.prog X.w X.K X.mg X.base (L2.CX X.prog X.w) k f fd ps (spI X.K X.w X.mg C.XR n m)) (hG : X.A.guards = some []) (hr : Room k X.A) (hg : Gl X x) (hm : X.mg x = some (.ref f)) (hk : PySem.W.keepIn X.K (.ref f) = true) (hb : Binds X.K fd ps []) (tk : Takes X C.W) (ha : PA X (e :: es) (tL C ms)) (hl : (e :: es).length = n)
    (hll : ∀ ρ as ρ', ms ρ = .ok as ρ' → as.length = n)
    (hdb : (x == ("__debug__" : Str)) = false := by decide) (he : starEach (e :: es) X.env = (false, eval e X.env) :: starEach es X.env := by rfl) (hpl : (backTo pos (starEach es X.env)).any (·.1) = false := by rfl) (hK : (⟨X.K, X.w, X.mg, none, none⟩ : Kw) = C.K := by rfl) : PE X (.Call (.Name x p) (e :: es) [] pos) (tO C (mCall m ms)) := by
  refine o_call1 (G := mCall m) F hG hr hg hm hk hb tk ha (fun σ ρ F0 H Q sr pp => ?_) hdb he hpl
  refine PostE.part (RA := rL C.K) pp fun as ρ1 F1 H1 xs e1 q1 g1 s1 r1 => ?_
  have q1 := q1.on stb_O g1
  cases e2 : argsS ρ1 as with
  | none => simp only [e2] at q1; exact q1.elim
  | some os =>
    simp only [e2] at q1
    obtain ⟨h1, h2⟩ := argsS_at s1 r1 e2
    obtain ⟨sa, no⟩ := SR.args s1 h1 h2
    refine ⟨by rw [r1.len]; exact hll _ _ _ e1, F1, os, (show (⟨X.K, X.w, X.mg, none, none⟩ : Kw) = C.K from hK) ▸ sa, ?_⟩
    rw [show (⟨X.K, X.w, X.mg, none, none⟩ : Kw) = C.K from hK]
    cases e3 : m (os.map some) with
    | bad => simp only [e3] at q1; exact q1.elim
    | ok r ρa =>
      simp only [e3] at q1
      intro F' H' v g' s' ro
      obtain ⟨s2, g2⟩ := s1.after0 no g' s'.sub s'.tb
      refine q1 F' H' v g2 s2 ⟨ro.1, fun io a ea => ?_⟩
      have hn : H1 a = none := ((ro.2 io a ea).2).resolve_right (no a)
      refine ⟨fun z => ?_, .inl hn⟩
      obtain ⟨_, u, hu⟩ := own.at s1 z
      rw [hn] at hu; cases hu
    | ex y ρa =>
      simp only [e3] at q1
      intro F' H' cls d g' s' xr
      obtain ⟨s2, g2⟩ := s1.after0 no g' s'.sub s'.tb
      exact q1 F' H' cls d g2 s2 xr
theorem o_fnO {ms : M (List Arg)} (F : FnG X.prog X.w X.K X.mg X.base (L2.CX X.prog X.w) k f fd ps (spI X.K X.w X.mg C.XR n m)) (hG : X.A.guards = some []) (hr : Room k X.A) (hg : Gl X x) (hm : X.mg x = some (.ref f)) (hk : PySem.W.keepIn X.K (.ref f) = true) (hb : Binds X.K fd ps []) (tk : Takes X C.W) (ha : PA X (e :: es) (tL C ms)) (hl : (e :: es).length = n)
    (hll : ∀ ρ as ρ', ms ρ = .ok as ρ' → as.length = n)
    (hdb : (x == ("__debug__" : Str)) = false := by decide) (he : starEach (e :: es) X.env = (false, eval e X.env) :: starEach es X.env := by rfl) (hpl : (backTo pos (starEach es X.env)).any (·.1) = false := by rfl) (hK : (⟨X.K, X.w, X.mg, none, none⟩ : Kw) = C.K := by rfl) : PE X (.Call (.Name x p) (e :: es) [] pos) (tO C (mCallO m ms)) := by
  refine o_call1 (G := mCallO m) F hG hr hg hm hk hb tk ha (fun σ ρ F0 H Q sr pp => ?_) hdb he hpl
  refine PostE.part (RA := rL C.K) pp fun as ρ1 F1 H1 xs e1 q1 g1 s1 r1 => ?_
  have q1 := q1.on stb_O g1
  have len1 := hll _ _ _ e1
  cases r1 with
  | nil => exact q1.elim
  | dat _ _ => exact q1.elim
  | fr _ _ => exact q1.elim
  | @slot x0 i xs as hv rt =>
    simp only at q1
    cases e0 : ρ1[i]? with
    | none => simp only [e0] at q1; exact q1.elim
    | some oo =>
      cases oo with
      | none => simp only [e0] at q1; exact q1.elim
      | some o =>
        cases e2 : argsS ρ1 as with
        | none => simp only [e0, e2] at q1; exact q1.elim
        | some os =>
          simp only [e0, e2] at q1
          split at q1
          · rename_i io
            obtain ⟨h1, h2⟩ := argsS_at s1 rt e2
            obtain ⟨v0, ev0, or0⟩ := s1.sl i o e0
            rw [hv] at ev0; cases ev0
            have lo : ∀ {j : Nat} {u : OD}, ((o :: os).map some)[j]? = some (some u) → (j = 0 ∧ u = o) ∨ (∃ j', j = j' + 1 ∧ os[j']? = some u) := fun {j u} e => by
              cases j with
              | zero => simp at e; exact .inl ⟨rfl, e.symm⟩
              | succ j => exact .inr ⟨j, rfl, by simpa using e⟩
            have sa : SR C.K F1 H1 ((x0 :: xs).map some) ((o :: os).map some) := by
              refine ⟨s1.sub, by simp [h1], fun j u e => ?_, fun j k u u' c ne e i1 e' i2 => ?_, s1.tb⟩
              · rcases lo e with ⟨rfl, rfl⟩ | ⟨j', rfl, e5⟩
                · exact ⟨x0, rfl, or0⟩
                · obtain ⟨_, v, e1, r⟩ := h2 _ _ e5
                  exact ⟨v, by simpa using e1, r⟩
              · rcases lo e with ⟨rfl, rfl⟩ | ⟨j', rfl, e5⟩
                · rcases lo e' with ⟨rfl, rfl⟩ | ⟨k', rfl, e6⟩
                  · exact absurd rfl ne
                  · rw [(h2 _ _ e6).1] at i2; cases i2
                · rw [(h2 _ _ e5).1] at i1; cases i1
            have oi : ∀ b, own ((x0 :: xs).map some) ((o :: os).map some) b → x0 = .ref b := fun b ⟨j, u, e, i1, e'⟩ => by
              rcases lo e with ⟨rfl, rfl⟩ | ⟨j', rfl, e5⟩
              · simpa using e'
              · rw [(h2 _ _ e5).1] at i1; cases i1
            have oo : ∀ b, own ((x0 :: xs).map some) ((o :: os).map some) b → own σ ρ1 b := fun b z => ⟨i, o, e0, io, by rw [hv, oi b z]⟩
            have il : i < ρ1.length := (List.getElem?_eq_some_iff.mp e0).1
            -- behind it
            have aft : ∀ {F' H' : Hp} {ρa : Rho}, Grow (own ((x0 :: xs).map some) ((o :: os).map some)) (own ((x0 :: xs).map some) ρa) F1 H1 F' H' → SR C.K F' H' ((x0 :: xs).map some) ρa →
                SR C.K F' H' σ (ρ1.set i (ρa[0]?.join)) ∧ Grow (own σ ρ1) (own σ (ρ1.set i (ρa[0]?.join))) F1 H1 F' H' ∧ (∀ c, own σ (ρ1.set i (ρa[0]?.join)) c → own σ ρ1 c) ∧
                ∀ c, own σ (ρ1.set i (ρa[0]?.join)) c → own ((x0 :: xs).map some) ρa c ∨ (¬ x0 = .ref c ∧ own σ ρ1 c) := fun {F' H' ρa} g' s' => by
              have at' : ∀ {j : Nat} {u : OD}, (ρ1.set i (ρa[0]?.join))[j]? = some (some u) → (j = i ∧ ρa[0]? = some (some u)) ∨ (j ≠ i ∧ ρ1[j]? = some (some u)) := fun {j u} e => by
                by_cases q : i = j
                · subst q
                  rw [List.getElem?_set_self il] at e
                  have e := Option.some.inj e
                  refine .inl ⟨rfl, ?_⟩
                  cases q2 : ρa[0]? with
                  | none => rw [q2] at e; cases e
                  | some z => rw [q2] at e; exact congrArg some e
                · rw [List.getElem?_set_ne q] at e
                  exact .inr ⟨fun z => q z.symm, e⟩
              have ow1 : ∀ c, own σ (ρ1.set i (ρa[0]?.join)) c → own σ ρ1 c := fun c ⟨j, u, e, i1, e'⟩ => by
                rcases at' e with ⟨rfl, e5⟩ | ⟨ne5, e5⟩
                · exact ⟨j, o, e0, io, e'⟩
                · exact ⟨j, u, e5, i1, e'⟩
              refine ⟨⟨s'.sub, by rw [List.length_set]; exact s1.len, fun j u e => ?_, fun j k u u' c ne e i1 e' i2 e3 e4 => ?_, s'.tb⟩, ⟨g'.ext, fun b u e t n => g'.keep b u e t fun z => n (oo b z), fun b ps e n => g'.kt b ps e fun z => n (oo b z), fun b h => ?_, fun b h => .inl (ow1 b h)⟩, ow1, fun c ⟨j, u, e, i1, e'⟩ => ?_⟩
              · rcases at' e with ⟨rfl, e5⟩ | ⟨ne5, e5⟩
                · obtain ⟨v, e1, r⟩ := s'.sl 0 u e5
                  simp at e1; subst e1
                  exact ⟨x0, hv, r⟩
                · obtain ⟨v, e1, r⟩ := s1.sl j u e5
                  refine ⟨v, e1, r.keep g'.ext fun c ec iu => ?_⟩
                  subst ec
                  have nn : ¬ own ((x0 :: xs).map some) ((o :: os).map some) c := fun z => by
                    have := oi c z; subst this
                    exact s1.sep j i u o c ne5 e5 iu e0 io e1 hv
                  obtain ⟨f1, w, hw⟩ := own.at s1 ⟨j, u, e5, iu, e1⟩
                  refine ⟨?_, fun w' h t => g'.keep c w' h t nn⟩
                  cases q : F' c with
                  | none => rfl
                  | some z =>
                    rcases g'.new c (by rw [q]; simp) with w2 | w2 | w2
                    · exact absurd f1 w2
                    · rw [hw] at w2; cases w2
                    · exact absurd w2 nn
              · rcases at' e with ⟨rfl, e5⟩ | ⟨n1, e5⟩
                · rcases at' e' with ⟨rfl, e6⟩ | ⟨n2, e6⟩
                  · exact absurd rfl ne
                  · exact s1.sep j k o u' c ne e0 io e6 i2 e3 e4
                · rcases at' e' with ⟨rfl, e6⟩ | ⟨n2, e6⟩
                  · exact s1.sep j k u o c ne e5 i1 e0 io e3 e4
                  · exact s1.sep j k u u' c ne e5 i1 e6 i2 e3 e4
              · rcases g'.new b h with w | w | w
                · exact .inl w
                · exact .inr (.inl w)
                · exact .inr (.inr (oo b w))
              · rcases at' e with ⟨rfl, e5⟩ | ⟨ne5, e5⟩
                · rw [hv] at e'
                  have e' := Option.some.inj (Option.some.inj e')
                  exact .inl ⟨0, u, e5, i1, by rw [e']; rfl⟩
                · refine .inr ⟨fun z => ?_, ⟨j, u, e5, i1, e'⟩⟩
                  subst z
                  exact s1.sep j i u o c ne5 e5 i1 e0 io e' hv
            refine ⟨?_, F1, o :: os, (show (⟨X.K, X.w, X.mg, none, none⟩ : Kw) = C.K from hK) ▸ sa, ?_⟩
            · have := rt.len
              rw [List.length_cons, this]; exact len1
            rw [show (⟨X.K, X.w, X.mg, none, none⟩ : Kw) = C.K from hK]
            cases e3 : m ((o :: os).map some) with
            | bad => simp only [e3] at q1; exact q1.elim
            | ok r ρa =>
              simp only [e3] at q1
              intro F' H' v g' s' ro
              obtain ⟨s2, g2, a3, a4⟩ := aft g' s'
              refine q1 F' H' v g2 s2 ⟨ro.1, fun ir c ec => ?_⟩
              obtain ⟨n1, n2⟩ := ro.2 ir c ec
              refine ⟨fun z => ?_, n2.imp id (oo c)⟩
              rcases a4 c z with w | ⟨w1, w2⟩
              · exact n1 w
              · rcases n2 with n2 | n2
                · obtain ⟨_, u, hu⟩ := own.at s1 w2
                  rw [n2] at hu; cases hu
                · exact w1 (oi c n2)
            | ex y ρa =>
              simp only [e3] at q1
              intro F' H' cls d g' s' xr
              obtain ⟨s2, g2, a3, a4⟩ := aft g' s'
              exact q1 F' H' cls d g2 s2 xr
          · exact q1.elim
end
end Eg
namespace Eg
open PySem L2 PySem.W PySem.SeqAt
section
variable [Tbs] {X : Cx} {C : Ct} {e a b c o : Expr} {es : List Expr} {pos apos cpos pos' : Pos} {P : List Nat}
def sPut (i : Nat) (mv mk : M PyData) : M Out := mv.bind fun d => mHas i (mk.bind fun kd => fun ρ => match keyD kd, ρ[i]? with
  | some k, some (some (.od kvs)) => if kvs.length < sizeLine then .ok .nx (ρ.set i (some (.od (dPut kvs k d)))) else .bad
  | _, _ => .bad)
def sPar (i j : Nat) (ma mb : M OD) : M Out := ma.bind fun u => mb.bind fun w => fun ρ => .ok .nx ((ρ.set i (some u)).set j (some w))
theorem s_par {i j : Nat} {x y : Str} {ma mb : M OD} {px py pt : Pos} {kt k2 pt2} (hc : X.calm = true) (hN : X.N.Nodup) (hi : X.N[i]? = some x) (hj : X.N[j]? = some y)
    (hx : X.env.scope.names.lookup x = some .local) (hy : X.env.scope.names.lookup y = some .local) (ha : PE X a (tO C ma)) (hb : PE X b (tO C mb)) 
    (hw : swappedStores [.Tuple [.Name x px, .Name y py] kt pt] (.Tuple [a, b] k2 pt2) X.env = pure (some [x, y]) := by rfl) (hij : i ≠ j := by decide) (hPi : i ∉ P := by decide) (hPj : j ∉ P := by decide)
    (hs : swapsWithSole [.Tuple [.Name x px, .Name y py] kt pt] (.Tuple [a, b] k2 pt2) pos.line X.env = pure false := by rfl)
    (hsa : starEach [a, b] X.env = (false, eval a X.env) :: starEach [b] X.env := by rfl) (hsb : starEach [b] X.env = (false, eval b X.env) :: starEach [] X.env := by rfl) :
    PS X (.Assign [.Tuple [.Name x px, .Name y py] kt pt] (.Tuple [a, b] k2 pt2) pos) (tS C P (sPar i j ma mb)) := by
  refine ⟨fun pins s σ H D I ⟨F, ρ, sr, p⟩ => (ps_par hc hN hi hj hij hx hy (pa_cons ha (pa_cons hb pa_nil hsb) hsa) hw hs).run pins s σ H D I ?_⟩
  have li : i < σ.length := by rw [I.len]; exact (List.getElem?_eq_some_iff.mp hi).1
  have lj : j < σ.length := by rw [I.len]; exact (List.getElem?_eq_some_iff.mp hj).1
  unfold sPar M.bind at p
  refine ⟨F, ρ, sr, ?_⟩
  cases e1 : ma ρ with
  | bad => rw [e1] at p; exact p
  | ex x ρ' => rw [e1] at p; exact fun F' H' cls d g s r => p F' H' σ cls d g s Pres.refl r
  | ok u ρ1 =>
  simp only [e1] at p
  intro F1 H1 v g1 s1 r1
  refine ⟨F1, ρ1, s1, ?_⟩
  cases e2 : mb ρ1 with
  | bad => simp only [e2] at p; exact p.elim
  | ex x ρ' => simp only [e2] at p; exact fun F' H' cls d g s r => p F' H' σ cls d (g1.trans g) s Pres.refl r
  | ok w ρ2 =>
  simp only [e2] at p
  intro F2 H2 z g2 s2 r2
  refine ⟨v, z, rfl, ?_⟩
  -- the first thing is as it was
  have keep1 : ∀ a, v = .ref a → u.isO = true → ¬ own σ ρ1 a ∧ (∃ o, H1 a = some o) ∧ F1 a = none := fun a ea io => by
    obtain ⟨b, o, eb, fb, hb⟩ := r1.1.refs io
    rw [eb] at ea; cases ea
    exact ⟨(r1.2 io a eb).1, ⟨o, hb⟩, fb⟩
  have or1 : OR C.K F2 H2 v u := r1.1.keep g2.ext fun a ea io => by
    obtain ⟨n1, ⟨o, ho⟩, fa⟩ := keep1 a ea io
    refine ⟨?_, fun o' h t => g2.keep a o' h t n1⟩
    cases q : F2 a with
    | none => rfl
    | some z =>
      rcases g2.new a (by rw [q]; simp) with y | y | y
      · exact absurd fa y
      · rw [ho] at y; cases y
      · exact absurd y n1
  have no2 : ∀ a, v = .ref a → u.isO = true → ¬ own σ ρ2 a := fun a ea io y => by
    obtain ⟨n1, ⟨o, ho⟩, _⟩ := keep1 a ea io
    rcases g2.ows a y with k | k
    · exact n1 k
    · rw [ho] at k; cases k
  have sA : SR C.K F2 H2 (σ.set i (some v)) (ρ2.set i (some u)) := s2.store li or1 fun io a ea => no2 a ea io
  have sB : SR C.K F2 H2 ((σ.set i (some v)).set j (some z)) ((ρ2.set i (some u)).set j (some w)) := by
    refine sA.store (by rw [List.length_set]; exact lj) r2.1 fun io a ea y => ?_
    rcases own.store li y with k | ⟨k1, k2⟩
    · exact (r2.2 io a ea).1 k
    · obtain ⟨n1, ⟨o, ho⟩, _⟩ := keep1 a k2 k1
      rcases (r2.2 io a ea).2 with m | m
      · rw [ho] at m; cases m
      · exact n1 m
  have g := g1.trans g2
  refine p F2 H2 _ ⟨g.ext, g.keep, g.kt, g.new, fun b y => ?_⟩ sB ⟨by rw [List.length_set, List.length_set], fun p hp => ?_⟩
  · rcases own.store (by rw [List.length_set]; exact lj) y with y | ⟨k1, k2⟩
    · rcases own.store li y with k | ⟨k1, k2⟩
      · exact g.ows b k
      · exact ((r1.2 k1 b k2).2).symm
    · rcases (r2.2 k1 b k2).2 with m | m
      · exact (g1.back m).symm
      · exact g1.ows b m
  · rw [List.getElem?_set_ne (fun z => hPj (by rw [z]; exact hp)), List.getElem?_set_ne (fun z => hPi (by rw [z]; exact hp))]
end
end Eg
namespace Eg
open PySem L2 PySem.W PySem.SeqAt
section
variable [Tbs] {X : Cx} {C : Ct} {e a b c o : Expr} {es : List Expr} {pos apos cpos pos' : Pos} {P : List Nat}
theorem s_setC {i : Nat} {y : Str} {py : Pos} {elt tg iter : Expr} {ifs : List Expr} {scope : Scope} {own : List (Str × Nat)} {pos spos : Pos} {g : TG} {t : Tgt} {src : M (List PyData)} {mt : M Bool} {me : M PyData} {n : Nat} (hc : X.calm = true) (hN : X.N.Nodup) (hy : X.N[i]? = some y) (hyl : X.env.scope.names.lookup y = some .local)
    (hsw : swapsWith (.ListComp elt [⟨tg, iter, ifs, 0⟩] scope pos) (some (.Name y py)) spos.line X.env = pure true) (hi : PI X tg iter (tI C src)) (ok : BlkOk X.N X.env.scope scope own)
    (hg : ∀ (s : Shared) (H : Hp) (D : Addr) (cl : List (Str × Addr)) (fp : List Addr), PG (X.blk s H scope (compEnvC scope cl D X.env) fp) tg g) (htg : TgOk C.quiet (outs n (own.map (·.2))) n g t)
    (ht : ∀ (s : Shared) (H : Hp) (D : Addr) (cl : List (Str × Addr)) (fp : List Addr), PTs (X.blk s H scope (compEnvC scope cl D X.env) fp) ifs (tT C.quiet mt))
    (he : ∀ (s : Shared) (H : Hp) (D : Addr) (cl : List (Str × Addr)) (fp : List Addr), PE (X.blk s H scope (compEnvC scope cl D X.env) fp) elt (tD C.quiet me)) (hP : i ∉ P := by decide) (hL : X.N.length = n := by rfl) (hs : ∀ x, foldedSetIterable iter X.env x = pure x := by intro _; rfl) :
    PS X (.Assign [.Name y py] (.ListComp elt [⟨tg, iter, ifs, 0⟩] scope pos) spos) (tS C P (sSet i (mComp src t mt me (own.map (·.2))))) := by
  refine ⟨fun pins s σ H D I ⟨F, ρ, sr, p⟩ => (ps_setLc hc hN hy hyl hsw hi ok hg ht he hs).run pins s σ H D I ?_⟩
  have q := PostS.set p (by rw [I.len]; exact (List.getElem?_eq_some_iff.mp hy).1) hP
  exact lc_read (by rw [I.len, hL]) htg ⟨F, ρ, sr, q⟩
end
end Eg
namespace Eg
open PySem L2 PySem.W PySem.SeqAt
theorem _root_.L2.Room.units1 {k : Nat} {A : Around} (r : Room k A) : A.units + 1 < cLine := by have := r.un; omega
def LenOk (ms : M (List Arg)) (n : Nat) : Prop := ∀ ρ as ρ', ms ρ = .ok as ρ' → as.length = n
theorem ll_nil : LenOk mNil 0 := fun _ _ _ e => by cases e; rfl
theorem ll_cons {ma : M Arg} {ms : M (List Arg)} {n : Nat} (h : LenOk ms n) : LenOk (mCons ma ms) (n + 1) := fun ρ as ρ' e => by
  simp only [mCons, M.bind] at e
  cases e1 : ma ρ with
  | bad => rw [e1] at e; cases e
  | ex _ _ => rw [e1] at e; cases e
  | ok a ρ1 =>
    rw [e1] at e
    simp only at e
    cases e2 : ms ρ1 with
    | bad => rw [e2] at e; cases e
    | ex _ _ => rw [e2] at e; cases e
    | ok as' ρ2 =>
      rw [e2] at e
      cases e
      rw [List.length_cons, h _ _ _ e2]
theorem b_len : bootBuiltins "len" = some (.builtin "len") := by decide +kernel
theorem b_repr : bootBuiltins "repr" = some (.builtin "repr") := by decide +kernel
theorem b_sorted : bootBuiltins "sorted" = some (.builtin "sorted") := by decide +kernel
theorem b_min : bootBuiltins "min" = some (.builtin "min") := by decide +kernel
theorem b_max : bootBuiltins "max" = some (.builtin "max") := by decide +kernel
theorem b_list : bootBuiltins "list" = some (.type "list") := by decide +kernel
theorem b_tuple : bootBuiltins "tuple" = some (.type "tuple") := by decide +kernel
theorem blk_look {scope : Scope} {env : Env} {sc : Scope} {x : Str} {k : NameKind} (hs : env.scope = sc) (h : (scope.names.map fun (n, k) => if (k == .free && sc.kind == .function && sc.names.lookup n == some .cell) then (n, .cell) else (n, k)).lookup x = some k) :
    (relabel scope env).names.lookup x = some k := by subst hs; exact h
theorem blk_gl {X : Cx} {scope : Scope} {env : Env} {sc : Scope} {x : Str} (hX : X.env.scope = relabel scope env) (hs : env.scope = sc) (h : (scope.names.map fun (n, k) => if (k == .free && sc.kind == .function && sc.names.lookup n == some .cell) then (n, .cell) else (n, k)).lookup x = some .globalImplicit) : Gl X x := by
  show X.env.scope.names.lookup x = _
  rw [hX]
  exact blk_look hs h
end Eg
namespace Eg
open PySem L2 PySem.W PySem.SeqAt PySem.Spec PyProof.Rows
theorem quietTop {P : Program} {w : World} {H : Hp} {s s' : Shared} {e : Value} (h : L2.CX P w [] H s (fun _ _ _ => False) e s') : False := by
  obtain ⟨_, _, _, _, _, _, _, _, _, _, _, _, z⟩ := h
  exact z
theorem script_heap {P : Program} {w : World} {K : PySem.W.Frag} {h : Heap} {a : Addr} {vs : List Value} {ns : List Int} (KX : K.In h) (ha : h.get? a = some { cls := .type "list", data := .seq vs.toArray }) (hi : IntsAre vs ns) (hl : ns.length ≤ sizeLine) :
    ∃ H : Hp, SqL K H a (ns.map V.int) ∧ HOk P w H h ∧ ∀ b, H b = none ∨ (b = a ∧ K.lookup a = none ∧ ∃ o, H b = some (.frz o (.lst (ns.map V.int)))) := by
  have rv := vals_ints hi
  cases hk : K.lookup a with
  | some o =>
    refine ⟨fun _ => none, .inr ⟨o, vs.toArray, ?_⟩, fun b u z => (by cases z), fun b => .inl rfl⟩
    have same := KX a o hk
    rw [ha] at same
    cases same
    exact ⟨_, hk, rfl, rfl, rfl, by simpa [hi.length] using hl, by simpa using rv⟩
  | none =>
    refine ⟨upd (fun _ => none) a (.frz { cls := .type "list", data := .seq vs.toArray } (.lst (ns.map V.int))), .inl (.inr ⟨_, upd_same⟩), fun b u z => ?_, fun b => ?_⟩
    · by_cases q : b = a
      · subst q
        rw [upd_same] at z
        cases z
        exact ⟨ha, by simpa using hl, vs, _, rv, ha⟩
      · rw [upd_ne q] at z; cases z
    · by_cases q : b = a
      · subst q; exact .inr ⟨rfl, rfl, _, upd_same⟩
      · exact .inl (upd_ne q)
def offT (H : Hp) : Hp := fun b => match H b with
  | some (.tbl _) => none
  | o => o
theorem offT_of {H : Hp} {b : Addr} {u : HO} (h : offT H b = some u) : H b = some u ∧ noT u := by
  unfold offT at h
  cases q : H b with
  | none => rw [q] at h; cases h
  | some o =>
    rw [q] at h
    by_cases n : noT o
    · have : o = u := by
        cases o with
        | tbl ps => cases h
        | _ => exact Option.some.inj h
      subst this
      exact ⟨rfl, n⟩
    · obtain ⟨ps, rfl⟩ : ∃ ps, o = .tbl ps := Classical.byContradiction fun z => n fun ps q => z ⟨ps, q⟩
      cases h
theorem offT_some {H : Hp} {b : Addr} {u : HO} (h : H b = some u) (n : noT u) : offT H b = some u := by
  unfold offT
  rw [h]
  cases u with
  | tbl ps => exact absurd rfl (n ps)
  | _ => rfl
theorem offT_sq {K : PySem.W.Frag} {H : Hp} {a : Addr} {xs : List V} (h : SqL K H a xs) : SqL K (offT H) a xs := by
  rcases h with (h | ⟨o, h⟩) | h
  · exact .inl (.inl (offT_some h fun _ z => by cases z))
  · exact .inl (.inr ⟨o, offT_some h fun _ z => by cases z⟩)
  · exact .inr h
theorem TB.start [Tbs] {H : Hp} (h : ∀ p ∈ Tbs.T, H p.1 = some (.tbl #[])) : TB (offT H) H := ⟨fun p hp => by
  have e := h p hp
  refine ⟨by unfold offT; rw [e], #[], e, True.intro, fun pos cv hc => ?_⟩
  have z : codeAmong pos [] = some cv := hc
  simp [codeAmong] at z, fun b u e => (offT_of e).2⟩
end Eg
namespace Eg
open PySem L2 PySem.W PySem.SeqAt
def Res.go {α β : Type} (x : Res α) (f : α → M β) : Res β := match x with
  | .ok a ρ => f a ρ
  | .ex x ρ => .ex x ρ
  | .bad => .bad
def Res.sq (x : Res Out) (n : M Out) : Res Out := match x with
  | .ok .nx ρ => n ρ
  | .ok (.rt r) ρ => .ok (.rt r) ρ
  | .ok .bk ρ => .ok .bk ρ
  | .ok .ct ρ => .ok .ct ρ
  | .ex x ρ => .ex x ρ
  | .bad => .bad
def Res.opt {α : Type} (x : Option α) (ρ : Rho) : Res α := match x with
  | some a => .ok a ρ
  | none => .bad
def Res.fin (io : List Bool) (x : Res Out) : Res OD := match x with
  | .ok (.rt r) ρ' => .ok r (keepIo io ρ')
  | .ok .nx ρ' => .ok (.sh .none) (keepIo io ρ')
  | .ex x ρ' => .ex x (keepIo io ρ')
  | _ => .bad
def slotD : Option (Option OD) → Option PyData
  | some (some (.sh d)) => some d
  | some (some (.ol xs)) => some (.list xs)
  | _ => none
section
variable {α β : Type} {ρ : Rho}
theorem v_bind (m : M α) (f : α → M β) : (m.bind f) ρ = (m ρ).go f := rfl
theorem v_go (a : α) (f : α → M β) : (Res.ok a ρ).go f = f a ρ := rfl
theorem v_ret (a : α) : M.ret a ρ = .ok a ρ := rfl
theorem v_get : M.get ρ = .ok ρ ρ := rfl
theorem v_lift (x : Option α) : M.lift x ρ = Res.opt x ρ := by cases x <;> rfl
theorem v_opt (a : α) : Res.opt (some a) ρ = .ok a ρ := rfl
theorem v_seq (m n : M Out) : sSeq m n ρ = (m ρ).sq n := by
  unfold sSeq M.bind Res.sq
  cases m ρ with
  | ok o r => cases o <;> rfl
  | _ => rfl
theorem v_sqn (n : M Out) : (Res.ok Out.nx ρ).sq n = n ρ := rfl
theorem v_sqr (r : OD) (n : M Out) : (Res.ok (Out.rt r) ρ).sq n = .ok (.rt r) ρ := rfl
theorem v_sqb (n : M Out) : (Res.ok Out.bk ρ).sq n = .ok .bk ρ := rfl
theorem v_sqc (n : M Out) : (Res.ok Out.ct ρ).sq n = .ok .ct ρ := rfl
theorem v_set (i : Nat) (m : M OD) : sSet i m ρ = (m ρ).go fun o => fun ρ => .ok .nx (ρ.set i (some o)) := rfl
theorem v_sret (m : M OD) : sRet m ρ = (m ρ).go fun r => M.ret (.rt r) := rfl
theorem v_if (t : M Bool) (a b : M Out) : sIf t a b ρ = (t ρ).go fun k => if k = true then a else b := rfl
theorem v_mif (t : M Bool) (a b : M α) : mIf t a b ρ = (t ρ).go fun k => if k = true then a else b := rfl
theorem v_next : sNext ρ = .ok .nx ρ := rfl
theorem v_expr (m : M PyData) : sExpr m ρ = (m ρ).go fun _ => M.ret .nx := rfl
theorem v_dat (d : PyData) : res1 ρ (.dat d) = some d := rfl
theorem v_slot (i : Nat) : res1 ρ (.slot i) = slotD ρ[i]? := rfl
theorem v_sd (d : PyData) : slotD (some (some (.sh d))) = some d := rfl
theorem v_so (d : List PyData) : slotD (some (some (.ol d))) = some (.list d) := rfl
def m2k {γ : Type} (g : PyData → PyData → Option γ) (a b : Arg) : M γ := fun ρ => Res.opt ((res1 ρ a).bind fun x => (res1 ρ b).bind fun y => g x y) ρ
theorem v_m2 {γ : Type} (g : PyData → PyData → Option γ) (ma mb : M Arg) : m2 g ma mb ρ = (ma ρ).go fun a => mb.bind fun b => m2k g a b := by
  refine congrArg (Res.go (ma ρ)) (funext fun a => funext fun r => ?_)
  exact congrArg (Res.go (mb r)) (funext fun b => funext fun r2 => v_lift _)
theorem v_m2k {γ : Type} (g : PyData → PyData → Option γ) (a b : Arg) : m2k g a b ρ = Res.opt ((res1 ρ a).bind fun x => (res1 ρ b).bind fun y => g x y) ρ := rfl
def m1k {γ : Type} (g : PyData → Option γ) (a : Arg) : M γ := fun ρ => Res.opt ((res1 ρ a).bind fun x => g x) ρ
theorem v_m1 {γ : Type} (g : PyData → Option γ) (ma : M Arg) : m1 g ma ρ = (ma ρ).go fun a => m1k g a :=
  congrArg (Res.go (ma ρ)) (funext fun a => funext fun r => v_lift _)
theorem v_m1k {γ : Type} (g : PyData → Option γ) (a : Arg) : m1k g a ρ = Res.opt ((res1 ρ a).bind fun x => g x) ρ := rfl
def mLk {γ : Type} (g : List PyData → Option γ) (as : List Arg) : M γ := fun ρ => Res.opt ((resL ρ as).bind fun x => g x) ρ
theorem v_mL {γ : Type} (g : List PyData → Option γ) (ms : M (List Arg)) : mL g ms ρ = (ms ρ).go fun as => mLk g as :=
  congrArg (Res.go (ms ρ)) (funext fun a => funext fun r => v_lift _)
theorem v_mLk {γ : Type} (g : List PyData → Option γ) (as : List Arg) : mLk g as ρ = Res.opt ((resL ρ as).bind fun x => g x) ρ := rfl
theorem v_rl0 : resL ρ [] = some [] := rfl
theorem v_rl1 (a : Arg) (as : List Arg) : resL ρ (a :: as) = (res1 ρ a).bind fun x => (resL ρ as).bind fun y => some (x :: y) := rfl
theorem v_nil : mNil ρ = .ok [] ρ := rfl
theorem v_cons (ma : M Arg) (ms : M (List Arg)) : mCons ma ms ρ = (ma ρ).go fun a => ms.bind fun as => M.ret (a :: as) := rfl
theorem v_fix {γ : Type} (g : List PyData → Option γ) (ms : M (List Arg)) : mFix g ms ρ = (ms ρ).go fun as => M.lift (do g (← fixL as)) := rfl
theorem v_fix0 : fixL [] = some [] := rfl
theorem v_fix1 (d : PyData) (as : List Arg) : fixL (.dat d :: as) = (fixL as).map (d :: ·) := rfl
theorem v_fzs (d : PyData) : fz (.sh d) = M.ret d := rfl
theorem v_fzo (d : List PyData) : fz (.ol d) = M.ret (.list d) := rfl
theorem v_ab (b : Bool) : asBool (.bool b) = M.ret b := rfl
theorem v_not (m : M Bool) : mNot m ρ = (m ρ).go fun b => M.ret (!b) := rfl
theorem v_and (a b : M Bool) : mAnd a b ρ = (a ρ).go fun k => if k = true then b else M.ret false := rfl
theorem v_or (a b : M Bool) : mOr a b ρ = (a ρ).go fun k => if k = true then M.ret true else b := rfl
theorem v_ai (i : Int) : asInt (.int i) = M.ret i := rfl
theorem v_fn (m : Nat) (io : List Bool) (b : M Out) : fnM m io b ρ = Res.fin io (b (ρ ++ List.replicate m none)) := by
  unfold fnM Res.fin
  cases b (ρ ++ List.replicate m none) with
  | ok o r => cases o <;> rfl
  | _ => rfl
theorem v_fin (io : List Bool) (r : OD) : Res.fin io (.ok (.rt r) ρ) = .ok r (keepIo io ρ) := rfl
theorem v_fin2 (io : List Bool) : Res.fin io (.ok .nx ρ) = .ok (.sh .none) (keepIo io ρ) := rfl
theorem v_kp0 (ρ : Rho) : keepIo [] ρ = [] := rfl
theorem v_kpt (io : List Bool) (o : Option OD) (ρ : Rho) : keepIo (true :: io) (o :: ρ) = o :: keepIo io ρ := rfl
theorem v_kpf (io : List Bool) (o : Option OD) (ρ : Rho) : keepIo (false :: io) (o :: ρ) = none :: keepIo io ρ := rfl
def slotO (x : Option (Option OD)) : Option OD := x.join
theorem v_slo (o : OD) : slotO (some (some o)) = some o := rfl
theorem v_mslot (i : Nat) : mSlot i ρ = Res.opt ((slotO ρ[i]?).map fun _ => .slot i) ρ := by
  unfold mSlot slotO
  split
  · rename_i h; rw [h]; rfl
  · rename_i h
    cases q : ρ[i]? with
    | none => rfl
    | some o => cases o with
      | none => rfl
      | some o => exact absurd q (h o)
def nameK (i : Nat) (x : Option (Option OD)) : M PyData := fun ρ => match x with
  | some (some (.sh d)) => .ok d ρ
  | some (some (.ol xs)) => .ok (.list xs) (ρ.set i (some (.sh (.list xs))))
  | _ => .bad
theorem v_name (i : Nat) : mName i ρ = nameK i ρ[i]? ρ := by
  unfold mName nameK
  cases ρ[i]? with
  | none => rfl
  | some o => cases o with
    | none => rfl
    | some o => cases o <;> rfl
theorem v_nms (i : Nat) (d : PyData) : nameK i (some (some (.sh d))) ρ = .ok d ρ := rfl
theorem v_nmo (i : Nat) (d : List PyData) : nameK i (some (some (.ol d))) ρ = .ok (.list d) (ρ.set i (some (.sh (.list d)))) := rfl
def takeK (i : Nat) (x : Option (Option OD)) : M OD := fun ρ => match x with
  | some (some (.sc _)) => .bad
  | some (some o) => .ok o (ρ.set i none)
  | _ => .bad
theorem v_take (i : Nat) : mTake i ρ = takeK i ρ[i]? ρ := by
  unfold mTake takeK
  cases ρ[i]? with
  | none => rfl
  | some o => cases o with
    | none => rfl
    | some o => cases o <;> rfl
theorem v_tks (i : Nat) (d : PyData) : takeK i (some (some (.sh d))) ρ = .ok (.sh d) (ρ.set i none) := rfl
theorem v_tko (i : Nat) (d : List PyData) : takeK i (some (some (.ol d))) ρ = .ok (.ol d) (ρ.set i none) := rfl
def hasK {γ : Type} (x : Option (Option OD)) (m : M γ) : M γ := fun ρ => match x with
  | some (some _) => m ρ
  | _ => .bad
theorem v_has {γ : Type} (i : Nat) (m : M γ) : mHas i m ρ = hasK ρ[i]? m ρ := by
  unfold mHas hasK
  cases ρ[i]? with
  | none => rfl
  | some o => cases o <;> rfl
theorem v_hask {γ : Type} (o : OD) (m : M γ) : hasK (some (some o)) m ρ = m ρ := rfl
def dgO (x : Option (Option OD)) (k : Key) : M PyData := fun ρ => match x with
  | some (some (.od kvs)) => Res.opt (dGet kvs k) ρ
  | _ => .bad
def dgk (i : Nat) (kd : PyData) : M PyData := fun ρ => match keyD kd with
  | some k => dgO ρ[i]? k ρ
  | none => .bad
theorem v_dget (i : Nat) (mk : M PyData) : mDGet i mk ρ = (mk ρ).go (dgk i) := by
  refine congrArg (Res.go (mk ρ)) (funext fun a => funext fun r => ?_)
  unfold dgk dgO
  cases Eg.keyD a with
  | none => rfl
  | some k =>
    cases q : r[i]? with
    | none => rfl
    | some o => cases o with
      | none => rfl
      | some o => cases o with
        | od kvs =>
          show (match dGet kvs k with | some d => Res.ok d r | none => Res.bad) = Res.opt (dGet kvs k) r
          cases dGet kvs k <;> rfl
        | _ => rfl
theorem v_dgk (i : Nat) (x : Str) : dgk i (.str x) ρ = dgO ρ[i]? (.inr x) ρ := rfl
theorem v_dgo (kvs : List (Key × PyData)) (k : Key) : dgO (some (some (.od kvs))) k ρ = Res.opt (dGet kvs k) ρ := rfl
def putO (x : Option (Option OD)) (i : Nat) (k : Key) (d : PyData) : M Out := fun ρ => match x with
  | some (some (.od kvs)) => if kvs.length < sizeLine then .ok .nx (ρ.set i (some (.od (dPut kvs k d)))) else .bad
  | _ => .bad
def putk (i : Nat) (d kd : PyData) : M Out := fun ρ => match keyD kd with
  | some k => putO ρ[i]? i k d ρ
  | none => .bad
theorem v_put (i : Nat) (mv mk : M PyData) : sPut i mv mk ρ = (mv ρ).go fun d => mHas i (mk.bind (putk i d)) := by
  refine congrArg (Res.go (mv ρ)) (funext fun d => congrArg (mHas i) (funext fun r => congrArg (Res.go (mk r)) (funext fun a => funext fun r2 => ?_)))
  unfold putk putO
  cases Eg.keyD a with
  | none => rfl
  | some k =>
    cases q : r2[i]? with
    | none => rfl
    | some o => cases o with
      | none => rfl
      | some o => cases o <;> rfl
theorem v_putk (i : Nat) (x : Str) (d : PyData) : putk i d (.str x) ρ = putO ρ[i]? i (.inr x) d ρ := rfl
theorem v_puto (i : Nat) (k : Key) (d : PyData) (kvs : List (Key × PyData)) : putO (some (some (.od kvs))) i k d ρ = if kvs.length < sizeLine then .ok .nx (ρ.set i (some (.od (dPut kvs k d)))) else .bad := rfl
def apO (x : Option (Option OD)) (i : Nat) (d : PyData) : M PyData := fun ρ => match x with
  | some (some (.ol xs)) => if xs.length < sizeLine then .ok .none (ρ.set i (some (.ol (xs ++ [d])))) else .bad
  | _ => .bad
theorem v_app (i : Nat) (m : M PyData) : mAppend i m ρ = (m ρ).go fun d => fun ρ => apO ρ[i]? i d ρ := by
  refine congrArg (Res.go (m ρ)) (funext fun a => funext fun r => ?_)
  unfold apO
  cases r[i]? with
  | none => rfl
  | some o => cases o with
    | none => rfl
    | some o => cases o <;> rfl
theorem v_apo (i : Nat) (d : PyData) (xs : List PyData) : apO (some (some (.ol xs))) i d ρ = if xs.length < sizeLine then .ok .none (ρ.set i (some (.ol (xs ++ [d])))) else .bad := rfl
def olK {γ : Type} (x : Option (Option OD)) (m : M γ) : M γ := fun ρ => match x with
  | some (some (.ol _)) => m ρ
  | _ => .bad
theorem v_ol {γ : Type} (i : Nat) (m : M γ) : mOl i m ρ = olK ρ[i]? m ρ := by
  unfold mOl isOl olK
  cases ρ[i]? with
  | none => rfl
  | some o => cases o with
    | none => rfl
    | some o => cases o <;> rfl
theorem v_olk {γ : Type} (xs : List PyData) (m : M γ) : olK (some (some (.ol xs))) m ρ = m ρ := rfl
def coR (i : Nat) (ρ : Rho) : Res OD → Res OD
  | .ok r ρa => .ok r (ρ.set i (ρa[0]?.join))
  | .ex x ρa => .ex x (ρ.set i (ρa[0]?.join))
  | .bad => .bad
def coO (x : Option (Option OD)) (i : Nat) (f : Fn) (os : Option (List OD)) : M OD := fun ρ => match x, os with
  | some (some o), some os => if o.isO = true then coR i ρ (f ((o :: os).map some)) else .bad
  | _, _ => .bad
def coK (f : Fn) : List Arg → M OD
  | .slot i :: as => fun ρ => coO ρ[i]? i f (argsS ρ as) ρ
  | _ => M.bad
theorem v_callO (f : Fn) (ms : M (List Arg)) : mCallO f ms ρ = (ms ρ).go (coK f) := by
  refine congrArg (Res.go (ms ρ)) (funext fun as => funext fun r => ?_)
  cases as with
  | nil => rfl
  | cons a as =>
    cases a with
    | dat d => rfl
    | fr d => rfl
    | slot i =>
      show _ = coO r[i]? i f (argsS r as) r
      unfold coO
      simp only
      cases r[i]? with
      | none => rfl
      | some o => cases o with
        | none => rfl
        | some o =>
          cases argsS r as with
          | none => rfl
          | some os =>
            simp only
            split
            · cases f (List.map some (o :: os)) <;> rfl
            · rfl
theorem v_coK (f : Fn) (i : Nat) (as : List Arg) : coK f (.slot i :: as) ρ = coO ρ[i]? i f (argsS ρ as) ρ := rfl
theorem v_coO (i : Nat) (f : Fn) (kvs : List (Key × PyData)) (os : List OD) : coO (some (some (.od kvs))) i f (some os) ρ = coR i ρ (f (some (.od kvs) :: os.map some)) := rfl
theorem v_coR (i : Nat) (r : OD) (o : Option OD) (ρa : Rho) : coR i ρ (.ok r (o :: ρa)) = .ok r (ρ.set i o) := rfl
theorem v_as0 : argsS ρ [] = some [] := rfl
theorem v_asd (d : PyData) (as : List Arg) : argsS ρ (.dat d :: as) = (argsS ρ as).map (.sh d :: ·) := by
  show ((argsS ρ as).bind fun y => some (OD.sh d :: y)) = _
  cases argsS ρ as <;> rfl
def asO : Option (Option OD) → Option OD
  | some (some (.sh d)) => some (.sh d)
  | some (some (.sc ns)) => some (.sc ns)
  | some (some (.sn kvs)) => some (.sn kvs)
  | some (some (.sd kvs)) => some (.sd kvs)
  | _ => none
theorem v_ass (i : Nat) (as : List Arg) : argsS ρ (.slot i :: as) = (asO ρ[i]?).bind fun o => (argsS ρ as).map (o :: ·) := by
  have e : argS ρ (.slot i) = asO ρ[i]? := by
    have ea : argO ρ (.slot i) = (ρ[i]?).join := rfl
    unfold argS asO
    rw [ea]
    cases ρ[i]? with
    | none => rfl
    | some o => cases o with
      | none => rfl
      | some o => cases o <;> rfl
  show ((argS ρ (.slot i)).bind fun x => (argsS ρ as).bind fun y => some (x :: y)) = _
  rw [e]
  cases asO ρ[i]? <;> cases argsS ρ as <;> rfl
theorem v_asod (d : PyData) : asO (some (some (.sh d))) = some (.sh d) := rfl
theorem v_ason (kvs : List (PyData × PyData)) : asO (some (some (.sn kvs))) = some (.sn kvs) := rfl
theorem v_asoc (ns : List Int) : asO (some (some (.sc ns))) = some (.sc ns) := rfl
def caR (ρ : Rho) : Res OD → Res OD
  | .ok r _ => .ok r ρ
  | .ex x _ => .ex x ρ
  | .bad => .bad
def caO (f : Fn) (os : Option (List OD)) : M OD := fun ρ => match os with
  | some os => caR ρ (f (os.map some))
  | none => .bad
theorem v_call (f : Fn) (ms : M (List Arg)) : mCall f ms ρ = (ms ρ).go fun as => fun ρ => caO f (argsS ρ as) ρ := by
  refine congrArg (Res.go (ms ρ)) (funext fun as => funext fun r => ?_)
  unfold caO
  cases argsS r as with
  | none => rfl
  | some os =>
    simp only
    cases f (List.map some os) <;> rfl
theorem v_caO (f : Fn) (os : List OD) : caO f (some os) ρ = caR ρ (f (os.map some)) := rfl
theorem v_caR (r : OD) (ρa : Rho) : caR ρ (.ok r ρa) = .ok r ρ := rfl
def lpK (t : Tgt) (b : M Out) (xs : List PyData) (x : Res Out) : Res Out := match x with
  | .ok .nx ρ => sLoop t b xs ρ
  | .ok .ct ρ => sLoop t b xs ρ
  | .ok .bk ρ => .ok .nx ρ
  | .ok (.rt r) ρ => .ok (.rt r) ρ
  | .ex x ρ => .ex x ρ
  | .bad => .bad
def lpO (t : Tgt) (b : M Out) (xs : List PyData) : Option Rho → Res Out
  | some ρ => lpK t b xs (b ρ)
  | none => .bad
theorem v_for (s : M (List PyData)) (t : Tgt) (b : M Out) : sFor s t b ρ = (s ρ).go fun xs => sLoop t b xs := rfl
theorem v_lp0 (t : Tgt) (b : M Out) : sLoop t b [] ρ = .ok .nx ρ := rfl
theorem v_lp1 (t : Tgt) (b : M Out) (x : PyData) (xs : List PyData) : sLoop t b (x :: xs) ρ = lpO t b xs (t x ρ) := by
  simp only [sLoop]
  cases t x ρ with
  | none => rfl
  | some r =>
    simp only [lpO, M.bind, lpK]
    cases b r with
    | ok o r2 => cases o <;> rfl
    | _ => rfl
theorem v_lpO (t : Tgt) (b : M Out) (xs : List PyData) : lpO t b xs (some ρ) = lpK t b xs (b ρ) := rfl
theorem v_lpn (t : Tgt) (b : M Out) (xs : List PyData) : lpK t b xs (.ok .nx ρ) = sLoop t b xs ρ := rfl
theorem v_lpr (t : Tgt) (b : M Out) (xs : List PyData) (r : OD) : lpK t b xs (.ok (.rt r) ρ) = .ok (.rt r) ρ := rfl
theorem v_tn (i : Nat) (d : PyData) : tName i d ρ = some (ρ.set i (some (.sh d))) := rfl
theorem v_sil (ds : List PyData) : seqItems (.list ds) = M.ret ds := rfl
theorem v_sit (ds : List PyData) : seqItems (.tuple ds) = M.ret ds := rfl
theorem v_par (i j : Nat) (ma mb : M OD) : sPar i j ma mb ρ = (ma ρ).go fun u => mb.bind fun w => fun ρ => .ok .nx ((ρ.set i (some u)).set j (some w)) := rfl
theorem v_un (m : M PyData) (t : Tgt) : sUn m t ρ = (m ρ).go fun d => fun ρ => Res.opt ((t d ρ).map fun _ => Out.nx) ((t d ρ).getD ρ) := by
  unfold sUn M.bind Res.go
  cases m ρ with
  | ok a r => simp only; cases t a r <;> rfl
  | _ => rfl
end
end Eg
local macro_rules | `(tactic| simp? only [$ls,*]) => `(tactic| simp -implicitDefEqProofs only [Eg.v_bind, Eg.v_go, Eg.v_ret, Eg.v_get, Eg.v_lift, Eg.v_opt, Eg.v_seq, Eg.v_sqn, Eg.v_sqr, Eg.v_sqb, Eg.v_sqc, Eg.v_set, Eg.v_sret, Eg.v_if, Eg.v_mif, Eg.v_next, Eg.v_expr, Eg.v_dat, Eg.v_slot, Eg.v_sd, Eg.v_so, Eg.v_m2, Eg.v_m2k, Eg.v_m1, Eg.v_m1k, Eg.v_mL, Eg.v_mLk, Eg.v_rl0, Eg.v_rl1, Eg.v_nil, Eg.v_cons, Eg.v_fix, Eg.v_fix0, Eg.v_fix1, Eg.v_fzs, Eg.v_fzo, Eg.v_ab, Eg.v_not, Eg.v_and, Eg.v_or, Eg.v_ai, Eg.v_fn, Eg.v_fin, Eg.v_fin2, Eg.v_kp0, Eg.v_kpt, Eg.v_kpf, Eg.v_slo, Eg.v_mslot, Eg.v_name, Eg.v_nms, Eg.v_nmo, Eg.v_take, Eg.v_tks, Eg.v_tko, Eg.v_has, Eg.v_hask, Eg.v_dget, Eg.v_dgk, Eg.v_dgo, Eg.v_put, Eg.v_putk, Eg.v_puto, Eg.v_app, Eg.v_apo, Eg.v_ol, Eg.v_olk, Eg.v_callO, Eg.v_coK, Eg.v_coO, Eg.v_coR, Eg.v_as0, Eg.v_asd, Eg.v_ass, Eg.v_asod, Eg.v_asoc, Eg.v_ason, Eg.v_call, Eg.v_caO, Eg.v_caR, Eg.v_for, Eg.v_lpO, Eg.v_lpn, Eg.v_lpr, Eg.v_tn, Eg.v_sil, Eg.v_sit, Eg.v_par, Eg.v_un, List.map_cons, List.map_nil, List.getElem?_cons_zero, List.getElem?_cons_succ, List.set_cons_zero, List.set_cons_succ, List.replicate_succ, List.replicate_zero, List.cons_append, List.nil_append, Option.bind_eq_bind, Option.bind_some, Option.map_some, if_true, Bool.false_eq_true, if_false, Bool.not_true, Bool.not_false, $ls,*])
namespace Eg
open PySem L2 PySem.W PySem.SeqAt
section
variable {ρ : Rho}
def scrK (x : Option (Option OD)) (l h : Option Int) : M OD := fun ρ => match x with
  | some (some (.sc ns)) => .ok (.ol (cutD (ns.map .int) l h)) ρ
  | _ => .bad
theorem v_scr (i : Nat) (l h : Option Int) : mScr i (M.ret l) (M.ret h) ρ = scrK ρ[i]? l h ρ := by
  unfold mScr scrK
  cases ρ[i]? with
  | none => rfl
  | some o => cases o with
    | none => rfl
    | some o => cases o <;> rfl
theorem v_pt63 (j : Int) : ((M.ret (PyData.int j)).bind fun d => (asInt d).bind fun i => M.ret (some i)) = M.ret (some j) := rfl
theorem v_scrk (ns : List Int) (l h : Option Int) : scrK (some (some (.sc ns))) l h ρ = .ok (.ol (cutD (ns.map .int) l h)) ρ := rfl
def whK (mt : M Bool) (b : M Out) (n : Nat) (x : Res Out) : Res Out := match x with
  | .ok .nx ρ => sWhile mt b n ρ
  | .ok .ct ρ => sWhile mt b n ρ
  | .ok .bk ρ => .ok .nx ρ
  | .ok (.rt r) ρ => .ok (.rt r) ρ
  | .ex x ρ => .ex x ρ
  | .bad => .bad
theorem v_wh (mt : M Bool) (b : M Out) (n : Nat) : sWhile mt b (n + 1) ρ = (mt ρ).go fun k => if k = true then (fun ρ => whK mt b n (b ρ)) else sNext := by
  refine congrArg (Res.go (mt ρ)) (funext fun k => ?_)
  cases k with
  | false => rfl
  | true =>
    simp only [if_true]
    funext r
    unfold whK
    show Res.go (b r) _ = _
    unfold Res.go
    cases b r with
    | ok o r2 => cases o <;> rfl
    | _ => rfl
theorem v_whn (mt : M Bool) (b : M Out) (n : Nat) : whK mt b n (.ok .nx ρ) = sWhile mt b n ρ := rfl
def popO (x : Option (Option OD)) (i : Nat) (d : PyData) : M PyData := fun ρ => match d, x with
  | .int j, some (some (.ol xs)) => if -(2 ^ 63) ≤ j ∧ j < 2 ^ 63 then (match seqIndex? j xs.length with
      | some k => (match xs[k]? with
        | some y => .ok y (ρ.set i (some (.ol (xs.eraseIdx k))))
        | none => .bad)
      | none => .bad) else .bad
  | _, _ => .bad
theorem v_pop (i : Nat) (m : M PyData) : mPopAt i m ρ = (m ρ).go fun d => fun ρ => popO ρ[i]? i d ρ := rfl
theorem v_popk {i : Nat} {xs : List PyData} {j : Int} (h0 : 0 ≤ j) (h1 : j < xs.length) (h2 : xs.length < 2 ^ 62) : ∃ y, xs[j.toNat]? = some y ∧ ∀ ρ, popO (some (some (.ol xs))) i (.int j) ρ = .ok y (ρ.set i (some (.ol (xs.eraseIdx j.toNat)))) := by
  have hl : j.toNat < xs.length := by omega
  refine ⟨xs[j.toNat], List.getElem?_eq_getElem hl, fun ρ => ?_⟩
  have e : seqIndex? j xs.length = some j.toNat := by
    have hn : ¬ j < 0 := by omega
    unfold seqIndex?
    simp [h0, h1, hn]
  unfold popO
  simp only
  rw [if_pos ⟨by omega, by omega⟩]
  simp only [e, List.getElem?_eq_getElem hl]
def cpK (x : Res (List PyData)) (ρ : Rho) (vs : List Nat) : Res OD := match x with
  | .ok acc ρ' => if ρ'.length = ρ.length then .ok (.ol acc) (restR ρ ρ' vs) else .bad
  | _ => .bad
theorem v_comp (s : M (List PyData)) (t : Tgt) (mt : M Bool) (me : M PyData) (vs : List Nat) : mComp s t mt me vs ρ = (s ρ).go fun xs => fun ρ => cpK (lcGo t mt me vs xs [] ρ) ρ vs := by
  refine congrArg (Res.go (s ρ)) (funext fun xs => funext fun r => ?_)
  unfold cpK
  cases lcGo t mt me vs xs [] r <;> rfl
theorem v_cpk (acc : List PyData) (ρ' : Rho) (vs : List Nat) (h : ρ'.length = ρ.length) : cpK (.ok acc ρ') ρ vs = .ok (.ol acc) (restR ρ ρ' vs) := if_pos h
theorem v_rs1 (ρ0 : Rho) (v : Nat) (vs : List Nat) : restR ρ0 ρ (v :: vs) = (restR ρ0 ρ vs).set v (ρ0[v]?.join) := rfl
theorem v_sl (ma : M Arg) (ml mh : M (Option Int)) : mSl ma ml mh ρ = (ma ρ).go fun a => ml.bind fun l => mh.bind fun h => fun ρ => Res.opt ((res1 ρ a).bind fun d => gSl d l h) ρ := by
  refine congrArg (Res.go (ma ρ)) (funext fun a => funext fun r => congrArg (Res.go (ml r)) (funext fun l => funext fun r2 => congrArg (Res.go (mh r2)) (funext fun h => funext fun r3 => v_lift _)))
end
end Eg
namespace Eg
open PySem L2 PySem.W PySem.SeqAt
theorem rAs.append {K : Kw} {F : Hp} {σ : St} : ∀ {vs ws : List V} {as bs : List Arg}, rAs K F σ vs as → rAs K F σ ws bs → rAs K F σ (vs ++ ws) (as ++ bs)
  | _, _, _, _, .nil, h => h
  | _, _, _, _, .dat d t, h => .dat d (rAs.append t h)
  | _, _, _, _, .slot d t, h => .slot d (rAs.append t h)
  | _, _, _, _, .fr d t, h => .fr d (rAs.append t h)
def mApp (ms mk : M (List Arg)) : M (List Arg) := ms.bind fun as => mk.bind fun bs => M.ret (as ++ bs)
section
variable [Tbs] {X : Cx} {C : Ct} {e a b : Expr} {es : List Expr} {pos p kpos : Pos} {k : Nat} {f : Addr} {fd : FuncData} {ps ks : List Str} {x : Str} {n n1 n2 : Nat} {m : Fn} {kws : List Keyword} {nm : Option Str}
theorem k_nil : PK X [] (tL C mNil) := ⟨fun pos pins s σ H Q I ⟨F, ρ, sr, p⟩ => pk_nil.run pos pins s σ H Q I (p F H [] Grow.refl sr .nil)⟩
theorem k_cons {ma : M Arg} {ms : M (List Arg)} (ha : PE X e (tA C ma)) (hr : PK X kws (tL C ms)) : PK X (⟨nm, e, kpos⟩ :: kws) (tL C (mCons ma ms)) := by
  refine ⟨fun pos pins s σ H Q I ⟨F, ρ, sr, p⟩ => (pk_cons ha hr).run pos pins s σ H Q I ?_⟩
  refine one sr stb_L p fun x a ρ1 F1 H1 s1 g1 r1 q1 => ?_
  refine ⟨F1, ρ1, s1, q1.part fun as ρ2 F2 H2 xs e2 q2 g2 s2 r2 => ?_⟩
  refine q2 F2 H2 (x :: xs) g2 s2 ?_
  cases a with
  | dat d => exact .dat (DV.mono g2.ext r1) r2
  | slot i => exact .slot r1 r2
  | fr kvs =>
    obtain ⟨b, L, h1, h2, h3⟩ := r1
    exact .fr ⟨b, L, h1, h2.mono g2.ext, KN.mono g2.ext h3⟩ r2
def negD : PyData → M PyData
  | .int i => M.ret (.int (-i))
  | _ => M.bad
theorem d_neg {ma : M PyData} (ha : PE X a (tD C ma)) : PE X (.UnaryOp .USub a pos) (tD C (ma.bind negD)) :=
  (pe_un un_neg ha).imp fun σ H Q ⟨F, ρ, sr, p⟩ => ⟨F, ρ, sr, p.part fun d ρ1 F1 H1 x e1 q1 g1 s1 r1 => by
    have q1 := q1.on stb_D g1
    cases r1 with
    | int i => exact ⟨i, rfl, q1 F1 H1 _ Grow.refl s1 (.int _)⟩
    | _ => exact q1.elim⟩
end
theorem v_app2 {ρ : Rho} (ms mk : M (List Arg)) : mApp ms mk ρ = (ms ρ).go fun as => mk.bind fun bs => M.ret (as ++ bs) := rfl
end Eg
namespace Eg
open PySem L2 PySem.W PySem.SeqAt
theorem v_andV {ρ : Rho} (ma mb : M PyData) : mAndV ma mb ρ = (ma ρ).go fun d => (asBool d).bind fun b => if b = true then mb else M.ret (.bool false) := rfl
theorem v_orV {ρ : Rho} (ma mb : M PyData) : mOrV ma mb ρ = (ma ρ).go fun d => (asBool d).bind fun b => if b = true then M.ret (.bool true) else mb := rfl
theorem v_notV {ρ : Rho} (ma : M PyData) : mNotV ma ρ = (ma ρ).go fun d => (asBool d).bind fun b => M.ret (.bool (!b)) := rfl
theorem v_neg (i : Int) : negD (.int i) = M.ret (.int (-i)) := rfl
end Eg
namespace Eg
open PySem L2 PySem.W PySem.SeqAt
theorem textFrom_most : ∀ (ts : List Str) (k : Nat) (acc : Str), (textFrom k acc ts).length ≤ acc.length + piled ts
  | [], k, acc => by show acc.length ≤ acc.length + _; omega
  | t :: ts, k, acc => by
    have ih := textFrom_most ts (k + 1) (acc ++ (if k > 0 then ", " else "" : String) ++ t)
    have e : (acc ++ (if k > 0 then ", " else "" : String) ++ t).length ≤ acc.length + 2 + t.length := by
      rw [strLen_append, strLen_append]
      have h0 : (("" : String) : Str).length = 0 := rfl
      have h2 : ((", " : String) : Str).length = 2 := rfl
      split <;> omega
    rw [piled_cons]
    show (textFrom (k + 1) (acc ++ (if k > 0 then ", " else "" : String) ++ t) ts).length ≤ _
    omega
theorem listText_most (ts : List Str) : (listText ts).length ≤ piled ts + 2 := by
  have h := textFrom_most ts 0 "["
  have h1 : (("[" : String) : Str).length = 1 := rfl
  have h2 : (("]" : String) : Str).length = 1 := rfl
  unfold listText
  rw [strLen_append]
  omega
theorem tupleText_most (ts : List Str) : (tupleText ts).length ≤ piled ts + 3 := by
  have h1 : (("(" : String) : Str).length = 1 := rfl
  have h2 : ((",)" : String) : Str).length = 2 := rfl
  have h3 : ((")" : String) : Str).length = 1 := rfl
  have hj : (Str.join ", " ts).length ≤ piled ts := by
    cases ts with
    | nil => exact Nat.zero_le _
    | cons t ts => have := join_length_add (t :: ts) (List.cons_ne_nil _ _); omega
  unfold tupleText
  rw [strLen_append, strLen_append]
  split <;> omega
theorem piled_le (n : Nat) : ∀ {ds : List PyData}, (∀ d ∈ ds, d.shown.length ≤ n) → piled (PyData.shownAll ds) ≤ (n + 2) * ds.length
  | [], _ => by rw [PyData.shownAll]; exact Nat.zero_le _
  | d :: ds, h => by
    have ih := piled_le n (ds := ds) fun x hx => h x (List.mem_cons_of_mem _ hx)
    have h0 := h d List.mem_cons_self
    rw [PyData.shownAll, piled_cons, List.length_cons, Nat.mul_add]
    omega
theorem showable_all : ∀ {ds : List PyData}, (∀ d ∈ ds, d.showable = true) → PyData.showableAll ds = true
  | [], _ => by rw [PyData.showableAll]
  | d :: ds, h => by
    rw [PyData.showableAll, h d List.mem_cons_self, showable_all fun x hx => h x (List.mem_cons_of_mem _ hx)]
    rfl
theorem depth_all (n : Nat) : ∀ {ds : List PyData}, (∀ d ∈ ds, d.depth ≤ n) → PyData.depthAll ds ≤ n
  | [], _ => by rw [PyData.depthAll]; exact Nat.zero_le _
  | d :: ds, h => by
    rw [PyData.depthAll]
    exact Nat.max_le.mpr ⟨h d List.mem_cons_self, depth_all n fun x hx => h x (List.mem_cons_of_mem _ hx)⟩
def Sh (n k : Nat) (d : PyData) : Prop := d.showable = true ∧ d.shown.length ≤ n ∧ d.depth ≤ k
theorem Sh.str {x : Str} {n : Nat} (h : (reprText x).length ≤ n) : Sh n 0 (.str x) := ⟨by rw [PyData.showable], by rw [PyData.shown]; exact h, by rw [PyData.depth]; exact Nat.le_refl _⟩
theorem Sh.list {n k m : Nat} {ds : List PyData} (h : ∀ d ∈ ds, Sh n k d) (hm : ds.length ≤ m) : Sh ((n + 2) * m + 3) (k + 1) (.list ds) := by
  refine ⟨?_, ?_, ?_⟩
  · rw [PyData.showable]; exact showable_all fun d hd => (h d hd).1
  · rw [PyData.shown]
    have h1 := listText_most (PyData.shownAll ds)
    have h2 := piled_le n fun d hd => (h d hd).2.1
    have h3 := Nat.mul_le_mul_left (n + 2) hm
    omega
  · rw [PyData.depth]
    have := depth_all k fun d hd => (h d hd).2.2
    omega
theorem Sh.tuple {n k m : Nat} {ds : List PyData} (h : ∀ d ∈ ds, Sh n k d) (hm : ds.length ≤ m) : Sh ((n + 2) * m + 3) (k + 1) (.tuple ds) := by
  refine ⟨?_, ?_, ?_⟩
  · rw [PyData.showable]; exact showable_all fun d hd => (h d hd).1
  · rw [PyData.shown]
    have h1 := tupleText_most (PyData.shownAll ds)
    have h2 := piled_le n fun d hd => (h d hd).2.1
    have h3 := Nat.mul_le_mul_left (n + 2) hm
    omega
  · rw [PyData.depth]
    have := depth_all k fun d hd => (h d hd).2.2
    omega
theorem Sh.repr {n k : Nat} {d : PyData} (h : Sh n k d) (hn : n ≤ 16777216) (hk : k ≤ 60) : gRepr [d] = some (.sh (.str d.shown)) := by
  have z := sizeLine_eq
  have hs : small d = true := decide_eq_true (Nat.le_trans h.2.2 hk)
  have hl : d.shown.length ≤ sizeLine := by have := h.2.1; omega
  simp only [gRepr]
  rw [if_pos ⟨h.1, hl, hs⟩]
end Eg
namespace Eg
open PySem L2 PySem.W PySem.SeqAt
section
variable [Tbs] {X : Cx} {C : Ct} {e a b c o tg iter : Expr} {es : List Expr} {pos p p1 p2 apos cpos pos' : Pos} {P : List Nat} {σ σ1 : St} {ρ ρ1 : Rho} {F H F1 H1 : Hp}
def tyName : PyData → Option String
  | .none => some "NoneType"
  | .bool _ => some "bool"
  | .int _ => some "int"
  | .str _ => some "str"
  | .list _ => some "list"
  | .tuple _ => some "tuple"
  | _ => Option.none
def gTyIs (T : String) (d : PyData) : Option PyData := (tyName d).map fun U => .bool (decide (U = T))
def gTyNot (T : String) (d : PyData) : Option PyData := (tyName d).map fun U => .bool (!decide (U = T))
def gIsB (k : Bool) : PyData → Option PyData
  | .bool b => some (.bool (decide (b = k)))
  | _ => none
def gNotB (k : Bool) : PyData → Option PyData
  | .bool b => some (.bool (!decide (b = k)))
  | _ => none
theorem b_any : bootBuiltins "any" = some (.builtin "any") := by decide +kernel
def mOp2 (g : PyData → PyData → Option PyData) (x y : PyData) : M PyData := M.lift (g x y)
def mChain (g g' : PyData → PyData → Option PyData) (ma mb mc : M PyData) : M PyData := ma.bind fun x => mb.bind fun y => (mOp2 g x y).bind fun d => (asBool d).bind fun k => if k = true then mc.bind fun z => mOp2 g' y z else M.ret (.bool false)
def strItems (x : Str) : List PyData := x.cps.toList.map fun c => .str ⟨#[c]⟩
def txtItems : PyData → M (List PyData)
  | .str x => M.ret (strItems x)
  | _ => M.bad
end
section
variable {ρ : Rho}
theorem v_chain (g g' : PyData → PyData → Option PyData) (ma mb mc : M PyData) : mChain g g' ma mb mc ρ = (ma ρ).go fun x => mb.bind fun y => (mOp2 g x y).bind fun d => (asBool d).bind fun k => if k = true then mc.bind fun z => mOp2 g' y z else M.ret (.bool false) := rfl
theorem v_op2 (g : PyData → PyData → Option PyData) (x y : PyData) : mOp2 g x y ρ = Res.opt (g x y) ρ := v_lift _
theorem v_txt (x : Str) : txtItems (.str x) = M.ret (strItems x) := rfl
end
end Eg
namespace Eg
open PySem L2 PySem.W PySem.SeqAt
section
variable [Tbs] {X : Cx} {C : Ct} {e a b c o tg iter : Expr} {es : List Expr} {pos p p1 p2 apos cpos pos' : Pos} {P : List Nat} {σ σ1 : St} {ρ ρ1 : Rho} {F H F1 H1 : Hp}
def truOf : PyData → Option Bool
  | .none => some false
  | .bool b => some b
  | .int i => some (i != 0)
  | .str x => if x.length ≤ sizeLine then some ((x.length : Int) != 0) else Option.none
  | .list ds => some (!ds.isEmpty)
  | .tuple ds => some (!ds.isEmpty)
  | _ => Option.none
def truD (d : PyData) : M Bool := M.lift (truOf d)
theorem DV.tru {K : Kw} {v : V} {d : PyData} {k : Bool} (h : DV K F v d) (s : Same F H) (e : truOf d = some k) : TruV K v H k := by
  cases h with
  | non => cases e; rfl
  | bl b => cases e; rfl
  | int i => cases e; rfl
  | str x =>
    simp only [truOf] at e
    split at e <;> cases e
    exact ⟨by assumption, rfl⟩
  | lst h1 h2 => cases e; exact .inl ⟨_, SqL.of (s _ _ h1), by cases h2 <;> rfl⟩
  | tup h1 h2 => cases e; exact .inr (.inl ⟨_, s.sqT h1, by cases h2 <;> rfl⟩)
theorem t_tru {m : M PyData} (h : PE X e (tD C m)) (hK : X.KW = C.K := by rfl) (he : ∀ whole, isTrue e X.env whole = (do let v ← whole; standAt e.pos; holding [v] (truthy v)) := by intro _; rfl) : PT X e (tT C (m.bind truD)) :=
  (pt_truth h he).imp fun σ H Q ⟨F, ρ, sr, p⟩ => ⟨F, ρ, sr, p.part fun d ρ1 F1 H1 x e1 q1 g1 s1 r1 => by
    have q1 := q1.on stb_T g1
    unfold truD at q1
    cases ek : truOf d with
    | none => rw [ek] at q1; exact q1.elim
    | some k => rw [ek] at q1; rw [show X.K = C.K.fr from congrArg Kw.fr hK]; exact ⟨k, DV.tru r1 s1.sub ek, q1 F1 H1 k Grow.refl s1 rfl⟩⟩
end
section
variable {ρ : Rho}
theorem v_truB (b : Bool) : truD (.bool b) = M.ret b := rfl
theorem v_truI (i : Int) : truD (.int i) = M.ret (i != 0) := rfl
theorem v_truL (ds : List PyData) : truD (.list ds) = M.ret (!ds.isEmpty) := rfl
theorem v_truT (ds : List PyData) : truD (.tuple ds) = M.ret (!ds.isEmpty) := rfl
theorem v_truN : truD .none = M.ret false := rfl
end
end Eg
namespace Eg
open PySem L2 PySem.W PySem.SeqAt
theorem restR_at {ρ0 ρ : Rho} {j : Nat} (hl : ρ.length = ρ0.length) : ∀ {vs : List Nat}, j ∈ vs → (restR ρ0 ρ vs)[j]? = ρ0[j]?
  | v :: vs, h => by
    rw [v_rs1]
    by_cases e : v = j
    · subst e
      by_cases q : v < ρ0.length
      · rw [List.getElem?_set_self (by rw [restR_len, hl]; exact q), List.getElem?_eq_getElem q]; rfl
      · rw [List.getElem?_eq_none (by rw [List.length_set, restR_len, hl]; omega), List.getElem?_eq_none (by omega)]
    · rw [List.getElem?_set_ne e]
      rcases List.mem_cons.mp h with z | z
      · exact absurd z.symm e
      · exact restR_at hl z
theorem restR_self {ρ0 ρ : Rho} {vs : List Nat} (h : wipeR ρ vs = wipeR ρ0 vs) : restR ρ0 ρ vs = ρ0 := by
  have hl : ρ.length = ρ0.length := by rw [← wipeR_len ρ vs, h, wipeR_len]
  refine List.ext_getElem? fun j => ?_
  by_cases q : j ∈ vs
  · exact restR_at hl q
  · rw [restR_out q, ← wipeR_out (ρ := ρ) q, h, wipeR_out q]
section
variable {α : Type} {src : M (List PyData)} {t : Tgt} {mt : M Bool} {me : M PyData} {vs : List Nat} {ρ ρ0 : Rho}
theorem lc_mapT {Inv : Rho → Prop} (f g : α → PyData) : ∀ (xs : List α) (acc : List PyData) (ρ : Rho), Inv ρ → acc.length + xs.length ≤ sizeLine →
    (∀ x ∈ xs, ∀ ρ, Inv ρ → ∃ ρ1 ρ2, t (f x) (wipeR ρ vs) = some ρ1 ∧ me ρ1 = .ok (g x) ρ2 ∧ Inv ρ2) → ∃ ρ', Inv ρ' ∧ lcGo t (M.ret true) me vs (xs.map f) acc ρ = .ok (acc ++ xs.map g) ρ'
  | [], acc, ρ, i, _, _ => ⟨ρ, i, by rw [List.map_nil, List.map_nil, List.append_nil]; rfl⟩
  | x :: xs, acc, ρ, i, hl, h => by
    obtain ⟨ρ1, ρ2, e1, e2, i2⟩ := h x List.mem_cons_self ρ i
    rw [List.length_cons] at hl
    obtain ⟨ρ', i', e'⟩ := lc_mapT f g xs (acc ++ [g x]) ρ2 i2 (by rw [List.length_append, List.length_singleton]; omega) fun y hy => h y (List.mem_cons_of_mem _ hy)
    refine ⟨ρ', i', ?_⟩
    rw [List.map_cons]
    simp only [lcGo, e1, M.ret, e2]
    rw [if_pos (by omega), e', List.map_cons, List.append_assoc]
    rfl
theorem lc_filtT {Inv : Rho → Prop} (f : α → PyData) (b : α → Bool) (g : α → PyData) : ∀ (xs : List α) (acc : List PyData) (ρ : Rho), Inv ρ → acc.length + xs.length ≤ sizeLine →
    (∀ x ∈ xs, ∀ ρ, Inv ρ → ∃ ρ1 ρ2, t (f x) (wipeR ρ vs) = some ρ1 ∧ mt ρ1 = .ok (b x) ρ2 ∧ (b x = false → Inv ρ2) ∧ (b x = true → ∃ ρ3, me ρ2 = .ok (g x) ρ3 ∧ Inv ρ3)) → ∃ ρ', Inv ρ' ∧ lcGo t mt me vs (xs.map f) acc ρ = .ok (acc ++ (xs.filter b).map g) ρ'
  | [], acc, ρ, i, _, _ => ⟨ρ, i, by rw [List.filter_nil, List.map_nil, List.map_nil, List.append_nil]; rfl⟩
  | x :: xs, acc, ρ, i, hl, h => by
    obtain ⟨ρ1, ρ2, e1, e2, k1, k2⟩ := h x List.mem_cons_self ρ i
    rw [List.length_cons] at hl
    rw [List.map_cons]
    cases q : b x with
    | false =>
      obtain ⟨ρ', i', e'⟩ := lc_filtT f b g xs acc ρ2 (k1 q) (by omega) fun y hy => h y (List.mem_cons_of_mem _ hy)
      refine ⟨ρ', i', ?_⟩
      rw [q] at e2
      simp only [lcGo, e1, e2]
      rw [e', List.filter_cons, q]
      rfl
    | true =>
      obtain ⟨ρ3, e3, i3⟩ := k2 q
      obtain ⟨ρ', i', e'⟩ := lc_filtT f b g xs (acc ++ [g x]) ρ3 i3 (by rw [List.length_append, List.length_singleton]; omega) fun y hy => h y (List.mem_cons_of_mem _ hy)
      refine ⟨ρ', i', ?_⟩
      rw [q] at e2
      simp only [lcGo, e1, e2, e3]
      rw [if_pos (by omega), e', List.filter_cons, q, List.append_assoc]
      rfl
theorem comp_pure {l : List α} {f : α → PyData} (g : α → PyData) (hs : src ρ = .ok (l.map f) ρ0) (hl : l.length ≤ sizeLine)
    (step : ∀ x ∈ l, ∃ ρ1 ρ2, t (f x) (wipeR ρ0 vs) = some ρ1 ∧ me ρ1 = .ok (g x) ρ2 ∧ wipeR ρ2 vs = wipeR ρ0 vs) : mComp src t (M.ret true) me vs ρ = .ok (.ol (l.map g)) ρ0 := by
  obtain ⟨ρ', i, e⟩ := lc_mapT (Inv := fun r => wipeR r vs = wipeR ρ0 vs) f g l [] ρ0 rfl (by rw [List.length_nil]; omega) fun x hx r hr => by
    obtain ⟨ρ1, ρ2, e1, e2, e3⟩ := step x hx
    exact ⟨ρ1, ρ2, by rw [hr]; exact e1, e2, e3⟩
  rw [v_comp, hs, v_go, e, v_cpk _ _ _ (by rw [← wipeR_len ρ' vs, i, wipeR_len]), restR_self i, List.nil_append]
theorem comp_filt {l : List α} {f : α → PyData} (b : α → Bool) (g : α → PyData) (hs : src ρ = .ok (l.map f) ρ0) (hl : l.length ≤ sizeLine)
    (step : ∀ x ∈ l, ∃ ρ1 ρ2, t (f x) (wipeR ρ0 vs) = some ρ1 ∧ mt ρ1 = .ok (b x) ρ2 ∧ wipeR ρ2 vs = wipeR ρ0 vs ∧ (b x = true → ∃ ρ3, me ρ2 = .ok (g x) ρ3 ∧ wipeR ρ3 vs = wipeR ρ0 vs)) : mComp src t mt me vs ρ = .ok (.ol ((l.filter b).map g)) ρ0 := by
  obtain ⟨ρ', i, e⟩ := lc_filtT (Inv := fun r => wipeR r vs = wipeR ρ0 vs) f b g l [] ρ0 rfl (by rw [List.length_nil]; omega) fun x hx r hr => by
    obtain ⟨ρ1, ρ2, e1, e2, e3, e4⟩ := step x hx
    exact ⟨ρ1, ρ2, by rw [hr]; exact e1, e2, fun _ => e3, e4⟩
  rw [v_comp, hs, v_go, e, v_cpk _ _ _ (by rw [← wipeR_len ρ' vs, i, wipeR_len]), restR_self i, List.nil_append]
theorem lc_fold {f : α → PyData} (n : Nat) (Inv : List PyData → Rho → Prop) : ∀ (xs : List α) (acc : List PyData) (ρ : Rho), Inv acc ρ → acc.length + xs.length = n → n ≤ sizeLine →
    (∀ x ∈ xs, ∀ acc ρ, acc.length < n → Inv acc ρ → ∃ d ρ1 ρ2, t (f x) (wipeR ρ vs) = some ρ1 ∧ me ρ1 = .ok d ρ2 ∧ Inv (acc ++ [d]) ρ2) → ∃ ds ρ', ds.length = n ∧ Inv ds ρ' ∧ lcGo t (M.ret true) me vs (xs.map f) acc ρ = .ok ds ρ'
  | [], acc, ρ, i, hn, _, _ => ⟨acc, ρ, by simpa using hn, i, rfl⟩
  | x :: xs, acc, ρ, i, hn, hl, h => by
    rw [List.length_cons] at hn
    obtain ⟨d, ρ1, ρ2, e1, e2, i2⟩ := h x List.mem_cons_self acc ρ (by omega) i
    obtain ⟨ds, ρ', hd, i', e'⟩ := lc_fold n Inv xs (acc ++ [d]) ρ2 i2 (by rw [List.length_append, List.length_singleton]; omega) hl fun y hy => h y (List.mem_cons_of_mem _ hy)
    refine ⟨ds, ρ', hd, i', ?_⟩
    rw [List.map_cons]
    simp only [lcGo, e1, M.ret, e2]
    rw [if_pos (by omega), e']
theorem comp_fold {l : List α} {f : α → PyData} (Inv : List PyData → Rho → Prop) (hs : src ρ = .ok (l.map f) ρ0) (hl : l.length ≤ sizeLine) (h0 : Inv [] ρ0) (hlen : ∀ ds r, Inv ds r → r.length = ρ0.length)
    (step : ∀ x ∈ l, ∀ acc ρ, acc.length < l.length → Inv acc ρ → ∃ d ρ1 ρ2, t (f x) (wipeR ρ vs) = some ρ1 ∧ me ρ1 = .ok d ρ2 ∧ Inv (acc ++ [d]) ρ2) : ∃ ds ρ', ds.length = l.length ∧ Inv ds ρ' ∧ mComp src t (M.ret true) me vs ρ = .ok (.ol ds) (restR ρ0 ρ' vs) := by
  obtain ⟨ds, ρ', hd, i, e⟩ := lc_fold (t := t) (me := me) (vs := vs) (f := f) l.length Inv l [] ρ0 h0 (by rw [List.length_nil]; omega) hl step
  exact ⟨ds, ρ', hd, i, by rw [v_comp, hs, v_go, e, v_cpk _ _ _ (hlen _ _ i)]⟩
variable {b : M Out}
theorem loop_inv {f : α → PyData} (Inv : List α → Rho → Prop) (step : ∀ x rest ρ, Inv (x :: rest) ρ → ∃ ρ1 ρ2, t (f x) ρ = some ρ1 ∧ (b ρ1 = .ok .nx ρ2 ∨ b ρ1 = .ok .ct ρ2) ∧ Inv rest ρ2) : ∀ (l : List α) (ρ : Rho), Inv l ρ → ∃ ρ', sLoop t b (l.map f) ρ = .ok .nx ρ' ∧ Inv [] ρ'
  | [], ρ, i => ⟨ρ, rfl, i⟩
  | x :: l, ρ, i => by
    obtain ⟨ρ1, ρ2, e1, e2, i2⟩ := step x l ρ i
    obtain ⟨ρ', e', i'⟩ := loop_inv Inv step l ρ2 i2
    refine ⟨ρ', ?_, i'⟩
    rw [List.map_cons, v_lp1, e1, v_lpO]
    rcases e2 with e2 | e2 <;> rw [e2] <;> exact e'
end
theorem gEq_refl {d : PyData} (h : alike d d = true) (s : small d = true) : gEq d d = some (.bool true) := by
  unfold gEq
  rw [if_pos s, eqv_refl_alike d h]
theorem gNe_refl {d : PyData} (h : alike d d = true) (s : small d = true) : gNe d d = some (.bool false) := by
  unfold gNe
  rw [if_pos s, eqv_refl_alike d h]
  rfl
end Eg
namespace Eg
open PySem L2 PySem.W PySem.SeqAt
def tLst (ts : List Tgt) : Tgt := fun d ρ => match d with
  | .list ds => tTup.go ts ds ρ
  | _ => none
theorem v_tt (ts : List Tgt) (ds : List PyData) (ρ : Rho) : tTup ts (.tuple ds) ρ = tTup.go ts ds ρ := rfl
theorem v_tl (ts : List Tgt) (ds : List PyData) (ρ : Rho) : tLst ts (.list ds) ρ = tTup.go ts ds ρ := rfl
theorem v_go0 (ρ : Rho) : tTup.go [] [] ρ = some ρ := rfl
theorem v_go1 (t : Tgt) (ts : List Tgt) (d : PyData) (ds : List PyData) (ρ : Rho) : tTup.go (t :: ts) (d :: ds) ρ = (t d ρ).bind fun ρ' => tTup.go ts ds ρ' := rfl
end Eg
namespace Eg
open PySem L2 PySem.W PySem.SeqAt
def Fd (n k : Nat) (d : PyData) : Prop := Sh n k d ∧ alike d d = true
theorem _root_.Eg.Sh.mono' {n m k l : Nat} {d : PyData} (h : Sh n k d) (hn : n ≤ m) (hk : k ≤ l) : Sh m l d := ⟨h.1, Nat.le_trans h.2.1 hn, Nat.le_trans h.2.2 hk⟩
theorem Fd.mono {n m k l : Nat} {d : PyData} (h : Fd n k d) (hn : n ≤ m) (hk : k ≤ l) : Fd m l d := ⟨h.1.mono' hn hk, h.2⟩
theorem Fd.str {x : Str} {n : Nat} (h : (reprText x).length ≤ n) : Fd n 0 (.str x) := ⟨Sh.str h, by simp [alike]⟩
theorem Fd.bool (b : Bool) : Fd 5 0 (.bool b) := ⟨by cases b <;> exact ⟨by rw [PyData.showable], by decide +kernel, by rw [PyData.depth]; exact Nat.le_refl _⟩, by simp [alike]⟩
theorem Fd.none : Fd 4 0 .none := ⟨⟨by rw [PyData.showable], by decide +kernel, by rw [PyData.depth]; exact Nat.le_refl _⟩, by simp [alike]⟩
theorem Fd.int {i : Int} {n : Nat} (h : i.natAbs < 10 ^ n) (h0 : 0 < n := by decide) (hn : n ≤ 400 := by decide) : Fd (n + 1) 0 (.int i) := by
  refine ⟨⟨?_, ?_, by rw [PyData.depth]; exact Nat.le_refl _⟩, by simp [alike]⟩
  · rw [PyData.showable]
    refine decide_eq_true ?_
    by_cases z : i.natAbs = 0
    · rw [z]; decide
    · have h2 : (10 : Nat) ^ n ≤ 2 ^ (4 * n) := by
        rw [Nat.pow_mul]
        exact Nat.pow_le_pow_left (by decide) n
      have := (Nat.log2_lt z).mpr (Nat.lt_of_lt_of_le h h2)
      omega
  · rw [PyData.shown]
    show (Str.ofString (toString i)).length ≤ n + 1
    rw [ofString_length]
    exact int_text_length_le10 h0 h
theorem alikeAll_self : ∀ {ds : List PyData}, (∀ d ∈ ds, alike d d = true) → alikeAll ds ds = true
  | [], _ => by simp [alikeAll]
  | d :: ds, h => by
    rw [alikeAll, h d List.mem_cons_self, alikeAll_self fun x hx => h x (List.mem_cons_of_mem _ hx)]
    rfl
theorem Fd.list {n k m : Nat} {ds : List PyData} (h : ∀ d ∈ ds, Fd n k d) (hm : ds.length ≤ m) : Fd ((n + 2) * m + 3) (k + 1) (.list ds) := ⟨Sh.list (fun d hd => (h d hd).1) hm, by rw [alike]; exact alikeAll_self fun d hd => (h d hd).2⟩
theorem Fd.tuple {n k m : Nat} {ds : List PyData} (h : ∀ d ∈ ds, Fd n k d) (hm : ds.length ≤ m) : Fd ((n + 2) * m + 3) (k + 1) (.tuple ds) := ⟨Sh.tuple (fun d hd => (h d hd).1) hm, by rw [alike]; exact alikeAll_self fun d hd => (h d hd).2⟩
theorem Fd.repr {n k : Nat} {d : PyData} (h : Fd n k d) (hn : n ≤ 16777216 := by decide) (hk : k ≤ 60 := by decide) : gRepr [d] = some (.sh (.str d.shown)) := h.1.repr hn hk
theorem Fd.small {n k : Nat} {d : PyData} (h : Fd n k d) (hk : k ≤ 60 := by decide) : small d = true := decide_eq_true (Nat.le_trans h.1.2.2 hk)
theorem gNe_strR (x : Str) : gNe (.str x) (.str x) = some (.bool false) := gNe_refl (by simp [alike]) (by simp [Eg.small, PyData.depth])
theorem gEq_strR (x : Str) : gEq (.str x) (.str x) = some (.bool true) := gEq_refl (by simp [alike]) (by simp [Eg.small, PyData.depth])
theorem all1 {p : PyData → Prop} {a : PyData} (ha : p a) : ∀ d ∈ [a], p d := fun d h => by simp at h; rw [h]; exact ha
theorem all2 {p : PyData → Prop} {a b : PyData} (ha : p a) (hb : p b) : ∀ d ∈ [a, b], p d := fun d h => by
  rcases List.mem_cons.mp h with rfl | h
  · exact ha
  · exact all1 hb d h
theorem all3 {p : PyData → Prop} {a b c : PyData} (ha : p a) (hb : p b) (hc : p c) : ∀ d ∈ [a, b, c], p d := fun d h => by
  rcases List.mem_cons.mp h with rfl | h
  · exact ha
  · exact all2 hb hc d h
theorem allM {α : Type} {p : PyData → Prop} {f : α → PyData} {l : List α} (h : ∀ x ∈ l, p (f x)) : ∀ d ∈ l.map f, p d := fun d hd => by
  obtain ⟨x, hx, rfl⟩ := List.mem_map.mp hd
  exact h x hx
theorem tupG_ok {ds : List PyData} (h : ds.length ≤ sizeLine) : tupG ds = some (.tuple ds) := if_pos h
theorem lstG_ok {ds : List PyData} (h : ds.length ≤ sizeLine) : lstG ds = some (.ol ds) := if_pos h
theorem tp0 : tupG [] = some (.tuple []) := tupG_ok (by show 0 ≤ sizeLine; decide)
theorem tp1 (a : PyData) : tupG [a] = some (.tuple [a]) := tupG_ok (by show 1 ≤ sizeLine; decide)
theorem tp2 (a b : PyData) : tupG [a, b] = some (.tuple [a, b]) := tupG_ok (by show 2 ≤ sizeLine; decide)
theorem tp3 (a b c : PyData) : tupG [a, b, c] = some (.tuple [a, b, c]) := tupG_ok (by show 3 ≤ sizeLine; decide)
theorem tp4 (a b c d : PyData) : tupG [a, b, c, d] = some (.tuple [a, b, c, d]) := tupG_ok (by show 4 ≤ sizeLine; decide)
theorem tp5 (a b c d e : PyData) : tupG [a, b, c, d, e] = some (.tuple [a, b, c, d, e]) := tupG_ok (by show 5 ≤ sizeLine; decide)
theorem tp6 (a b c d e f : PyData) : tupG [a, b, c, d, e, f] = some (.tuple [a, b, c, d, e, f]) := tupG_ok (by show 6 ≤ sizeLine; decide)
theorem tp7 (a b c d e f g : PyData) : tupG [a, b, c, d, e, f, g] = some (.tuple [a, b, c, d, e, f, g]) := tupG_ok (by show 7 ≤ sizeLine; decide)
theorem ls0 : lstG [] = some (.ol []) := lstG_ok (by show 0 ≤ sizeLine; decide)
theorem ls1 (a : PyData) : lstG [a] = some (.ol [a]) := lstG_ok (by show 1 ≤ sizeLine; decide)
theorem ls2 (a b : PyData) : lstG [a, b] = some (.ol [a, b]) := lstG_ok (by show 2 ≤ sizeLine; decide)
theorem ls3 (a b c : PyData) : lstG [a, b, c] = some (.ol [a, b, c]) := lstG_ok (by show 3 ≤ sizeLine; decide)
theorem ls4 (a b c d : PyData) : lstG [a, b, c, d] = some (.ol [a, b, c, d]) := lstG_ok (by show 4 ≤ sizeLine; decide)
theorem ls5 (a b c d e : PyData) : lstG [a, b, c, d, e] = some (.ol [a, b, c, d, e]) := lstG_ok (by show 5 ≤ sizeLine; decide)
theorem ls6 (a b c d e f : PyData) : lstG [a, b, c, d, e, f] = some (.ol [a, b, c, d, e, f]) := lstG_ok (by show 6 ≤ sizeLine; decide)
theorem ls7 (a b c d e f g : PyData) : lstG [a, b, c, d, e, f, g] = some (.ol [a, b, c, d, e, f, g]) := lstG_ok (by show 7 ≤ sizeLine; decide)
theorem tuL (ds : List PyData) : gTuple [.list ds] = some (.sh (.tuple ds)) := rfl
end Eg
namespace Eg
open PySem L2 PySem.W PySem.SeqAt
section
variable [Tbs] {X : Cx} {C : Ct} {e a b c o tg iter : Expr} {es : List Expr} {pos p p1 p2 apos cpos pos' : Pos} {P : List Nat} {σ σ1 : St} {ρ ρ1 : Rho} {F H F1 H1 : Hp}
def gIsi (T : String) (d : PyData) : Option PyData := (tyName d).bind fun U => (kitB U T).map .bool
theorem b_isi : bootBuiltins "isinstance" = some (.builtin "isinstance") := by decide +kernel
def putLO (x : Option (Option OD)) (i : Nat) (d kd : PyData) : M Out := fun ρ => match kd, x with
  | .int j, some (some (.ol xs)) => (match ixN xs.length j with
    | some n => .ok .nx (ρ.set i (some (.ol (xs.set n d))))
    | none => .bad)
  | _, _ => .bad
def sPutL (i : Nat) (mv mk : M PyData) : M Out := mv.bind fun d => mOl i (mk.bind fun kd => fun ρ => putLO ρ[i]? i d kd ρ)
theorem s_putL {i : Nat} {value : Expr} {mv mk : M PyData} (ho : PE X o (tVar i)) (hi : PE X e (tD C mk)) (hv : PE X value (tD C mv)) (hs : swapsWithSole [.Subscript o e pos'] value pos.line X.env = pure false := by rfl) (hw : swappedStores [.Subscript o e pos'] value X.env = pure none := by rfl)
    (h1 : (assignEach [.Subscript o e pos'] X.env).map (·.2) = [assign (.Subscript o e pos') X.env] := by rfl)
    (hsub : ∀ v, assign (.Subscript o e pos') X.env v = (do
      let ov ← holding [v] (eval o X.env)
      let iv ← holding [v, ov] (eval e X.env)
      standAt pos'
      holding [v, ov, iv] (setItem ov iv v)
      release [v, ov, iv] []) := by intro _; rfl) :
    PS X (.Assign [.Subscript o e pos'] value pos) (tS C P (sPutL i mv mk)) :=
  (ps_asg hv (pg_sub ho hi set_list hsub) hs hw h1).imp fun D σ H ⟨F, ρ, sr, p⟩ => by
    refine ⟨F, ρ, sr, PostS.part (P := P) p fun d ρ1 F1 H1 v q1 g1 s1 r1 => ?_⟩
    unfold mOl at q1
    split at q1
    · rename_i hio
      obtain ⟨xs0, eo⟩ := isOl_at hio
      obtain ⟨x, hx, _⟩ := s1.sl i _ eo
      refine ⟨x, hx, F1, ρ1, s1, PostS.part (P := P) q1 fun kd ρ2 F2 H2 y q2 g2 s2 r2 => ?_⟩
      unfold putLO at q2
      split at q2
      · rename_i j xs eo2
        split at q2
        · rename_i n hz
          obtain ⟨x', hx', a, vs, rfl, k1, k2, k3⟩ := s2.sl i _ eo2
          rw [hx] at hx'; cases hx'
          cases r2
          have st := SR.write (i := i) (o' := .ol (xs.set n d)) (u := .lst (vs.set n v)) s2 eo2 rfl hx rfl ⟨a, vs.set n v, rfl, k1, upd_same, DVs.set (DV.mono g2.ext r1) n k3⟩
          exact ⟨a, vs, j, n, rfl, rfl, k2, by rw [k3.len]; exact hz, q2 F2 _ σ st.2 st.1 Pres.refl⟩
        · exact q2.elim
      · exact q2.elim
    · exact q1.elim
def extO (x : Option (Option OD)) (i : Nat) (d : PyData) : M PyData := fun ρ => match x, d with
  | some (some (.ol xs)), .list ys => if xs.length + ys.length ≤ sizeLine then .ok .none (ρ.set i (some (.ol (xs ++ ys)))) else .bad
  | _, _ => .bad
def mExtend (i : Nat) (m : M PyData) : M PyData := m.bind fun d => fun ρ => extO ρ[i]? i d ρ
theorem x_extend {i : Nat} {m : M PyData} (ho : PE X o (tVar i)) (he : PE X e (tD C m))
    (hbase : attributeBase o "extend" X.env (eval o X.env) = eval o X.env := by rfl)
    (hfew : ((backTo cpos (starEach [e] X.env)).all (fun z => !z.1) && (backToKw cpos (keywordEach [] X.env)).all (fun z => z.1.isSome)
      && decide ([e].length + ([] : List Keyword).length + (if ([] : List Keyword).isEmpty then 0 else 1) < 30)) = true := by rfl)
    (hline : (apos.endLine == cpos.line) = true := by rfl) (hs : starEach [e] X.env = (false, eval e X.env) :: starEach [] X.env := by rfl) :
    PE X (.Call (.Attribute o "extend" apos) [e] [] cpos) (tD C (mOl i (mExtend i m))) := by
  refine (pe_bm PySem.F.plainAttrs_list PySem.F.slot_list_extend PySem.F.type_list_extend mt_extend ho (pa_cons he pa_nil hs) hbase hfew hline hs rfl).imp fun σ H Q ⟨F, ρ, sr, p⟩ => ?_
  unfold mOl at p
  split at p
  · rename_i hi
    obtain ⟨xs, ex⟩ := isOl_at hi
    obtain ⟨v, hv, a, vs, rfl, h1, h2, h3⟩ := sr.sl i _ ex
    refine ⟨_, hv, .inl ⟨rfl, vs, SqL.of h2⟩, F, ρ, sr, p.part fun d ρ1 F1 H1 y e1 q1 g1 s1 r1 => ?_⟩
    have q1 := q1.on stb_D g1
    unfold extO at q1
    split at q1
    · rename_i ys zs q _
      split at q1
      · rename_i hz
        obtain ⟨v', hv', b, ws, e2, k1, k2, k3⟩ := s1.sl i _ q
        rw [hv] at hv'; cases hv'; cases e2
        cases r1 with
        | @lst c us ds c1 c2 =>
          have st := SR.write (i := i) (o' := .ol (ys ++ zs)) (u := .lst (ws ++ us)) s1 q rfl hv rfl ⟨a, ws ++ us, rfl, k1, upd_same, k3.append c2⟩
          exact ⟨a, c, ws, us, rfl, rfl, k2, s1.sub _ _ c1, by rw [k3.len, c2.len]; exact hz, q1 F1 _ _ st.2 st.1 .non⟩
      · exact q1.elim
    · exact q1.elim
  · exact p.elim
end
section
variable {ρ : Rho}
theorem v_putL (i : Nat) (mv mk : M PyData) : sPutL i mv mk ρ = (mv ρ).go fun d => mOl i (mk.bind fun kd => fun ρ => putLO ρ[i]? i d kd ρ) := rfl
theorem v_ext (i : Nat) (m : M PyData) : mExtend i m ρ = (m ρ).go fun d => fun ρ => extO ρ[i]? i d ρ := rfl
theorem v_exto {xs ys : List PyData} {i : Nat} (h : xs.length + ys.length ≤ sizeLine) : extO (some (some (.ol xs))) i (.list ys) ρ = .ok .none (ρ.set i (some (.ol (xs ++ ys)))) := if_pos h
end
end Eg
namespace Eg
open PySem L2 PySem.W PySem.SeqAt
structure Dft (K : PySem.W.Frag) (v : V) (u : Value) (d : PyData) : Prop where
  rel : RelV v u
  dv : ∀ (w : World) (mg : Str → Option Value) (e : Option (Addr × Obj)) (l : Option LamI) (F : Hp), DV ⟨K, w, mg, e, l⟩ F v d
abbrev Pick := List (Nat ⊕ (V × Value × PyData))
def pkU (π : Pick) (us : List Value) : List Value := π.map fun x => match x with
  | .inl i => us.getD i .none
  | .inr t => t.2.1
def pkV (π : Pick) (vs : List V) : List V := π.map fun x => match x with
  | .inl i => vs.getD i .non
  | .inr t => t.1
def pkA (π : List (Nat ⊕ PyData)) (as : List Arg) : List Arg := π.map fun x => match x with
  | .inl i => as.getD i (.dat .none)
  | .inr d => .dat d
def forget (π : Pick) : List (Nat ⊕ PyData) := π.map fun x => match x with
  | .inl i => .inl i
  | .inr t => .inr t.2.2
def pkOk (K : PySem.W.Frag) (n : Nat) : Pick → Prop
  | [] => True
  | .inl i :: π => i < n ∧ pkOk K n π
  | .inr t :: π => Dft K t.1 t.2.1 t.2.2 ∧ pkOk K n π
theorem valsGet : ∀ {vs : List V} {us : List Value} (i : Nat), Vals vs us → RelV (vs.getD i .non) (us.getD i .none)
  | _, _, _, .nil => rfl
  | _, _, 0, .cons h _ => h
  | _, _, i + 1, .cons _ h => by simpa using valsGet i h
theorem pkVals {K : PySem.W.Frag} {n : Nat} : ∀ {π : Pick} {vs : List V} {us : List Value}, pkOk K n π → Vals vs us → Vals (pkV π vs) (pkU π us)
  | [], _, _, _, _ => .nil
  | .inl i :: π, _, _, h, r => .cons (valsGet i r) (pkVals h.2 r)
  | .inr t :: π, _, _, h, r => .cons h.1.rel (pkVals h.2 r)
theorem rAsGet {K : Kw} {F : Hp} {σ : St} : ∀ {vs : List V} {as : List Arg} (i : Nat), rAs K F σ vs as → i < vs.length → ∀ {ws : List V} {bs : List Arg}, rAs K F σ ws bs → rAs K F σ (vs.getD i .non :: ws) (as.getD i (.dat .none) :: bs)
  | _, _, 0, .dat h _, _, _, _, t => .dat h t
  | _, _, 0, .slot h _, _, _, _, t => .slot h t
  | _, _, 0, .fr h _, _, _, _, t => .fr h t
  | _, _, i + 1, .dat _ r, l, _, _, t => by simpa using rAsGet i r (by simpa using l) t
  | _, _, i + 1, .slot _ r, l, _, _, t => by simpa using rAsGet i r (by simpa using l) t
  | _, _, i + 1, .fr _ r, l, _, _, t => by simpa using rAsGet i r (by simpa using l) t
theorem pkAs {K : Kw} {F : Hp} {σ : St} {n : Nat} {vs : List V} {as : List Arg} (r : rAs K F σ vs as) (hl : vs.length = n) : ∀ {π : Pick}, pkOk K n π → rAs K F σ (pkV π vs) (pkA (forget π) as)
  | [], _ => .nil
  | .inl i :: π, h => rAsGet i r (by rw [hl]; exact h.1) (pkAs r hl h.2)
  | .inr t :: π, h => .dat (h.1.dv K.w K.mg K.exn K.lam F) (pkAs r hl h.2)
def mPick (π : List (Nat ⊕ PyData)) (ms : M (List Arg)) : M (List Arg) := ms.bind fun as => M.ret (pkA π as)
def BindsP (K : PySem.W.Frag) (fd : FuncData) (ps ks : List Str) (n1 n2 : Nat) (π : Pick) : Prop := ∀ (s : Shared) (us ws : List Value), K.In s.heap → us.length = n1 → ws.length = n2 → BindsTo s fd ⟨us, ks.zip ws⟩ (ps.zip (pkU π (us ++ ws)))
section
variable [Tbs] {X : Cx} {C : Ct} {e a b : Expr} {es : List Expr} {pos p : Pos} {k : Nat} {f : Addr} {fd : FuncData} {ps ks : List Str} {x : Str} {n1 n2 n : Nat} {π : Pick} {sm : List (Nat ⊕ PyData)} {kws : List Keyword} {m : Fn}
omit [Tbs] in
theorem pick_eq (ms mk : M (List Arg)) (π : List (Nat ⊕ PyData)) (ρ : Rho) : mCall m (mPick π (mApp ms mk)) ρ = (ms.bind fun as => mk.bind fun bs => fun ρ => match argsS ρ (pkA π (as ++ bs)) with
    | some os => (match m (os.map some) with
      | .ok r _ => .ok r ρ
      | .ex x _ => .ex x ρ
      | .bad => .bad)
    | none => .bad) ρ := by
  unfold mCall mPick mApp M.bind M.ret
  cases ms ρ with
  | ok as ρ1 =>
    simp only
    cases mk ρ1 <;> rfl
  | _ => rfl
theorem pick_go {ms mk : M (List Arg)} {σ : St} {ρ : Rho} {F0 H : Hp} {Q : VK} (hK : (⟨X.K, X.w, X.mg, none, none⟩ : Kw) = C.K) (ok : pkOk X.K (n1 + n2) π) (hn : π.length = n) (h1 : LenOk ms n1) (h2 : LenOk mk n2) (sr : SR C.K F0 H σ ρ) (pp : PostE C (rO C.K) σ ρ F0 H Q (mCall m (mPick (forget π) (mApp ms mk)) ρ)) :
    tL C ms σ H fun vs H1 => tL C mk σ H1 fun zs H2 => (vs.length = n1 ∧ zs.length = n2) ∧ spI X.K X.w X.mg C.XR n m (pkV π (vs ++ zs)) H2 Q (WE C.W σ) := by
  refine ⟨F0, ρ, sr, ?_⟩
  rw [pick_eq] at pp
  refine PostE.part (RA := rL C.K) pp fun as ρ1 F1 H1 xs e1 q1 g1 s1 r1 => ?_
  have q1 := q1.on stb_O g1
  refine ⟨F1, ρ1, s1, PostE.part (RA := rL C.K) q1 fun bs ρ2 F2 H2 zs e2 q2 g2 s2 r2 => ?_⟩
  have q2 := q2.on stb_O g2
  have l1 : xs.length = n1 := by rw [r1.len]; exact h1 _ _ _ e1
  have l2 : zs.length = n2 := by rw [r2.len]; exact h2 _ _ _ e2
  refine ⟨⟨l1, l2⟩, ?_⟩
  have ra := pkAs ((rAs.mono g2.ext r1).append r2) (by rw [List.length_append, l1, l2]) ((show X.K = C.K.fr from congrArg Kw.fr hK) ▸ ok)
  cases ea : argsS ρ2 (pkA (forget π) (as ++ bs)) with
  | none => simp only [ea] at q2; exact q2.elim
  | some os =>
    simp only [ea] at q2
    obtain ⟨k1, k2⟩ := argsS_at s2 ra ea
    obtain ⟨sa, no⟩ := SR.args s2 k1 k2
    refine ⟨by rw [pkV, List.length_map, hn], F2, os, (show (⟨X.K, X.w, X.mg, none, none⟩ : Kw) = C.K from hK) ▸ sa, ?_⟩
    rw [show (⟨X.K, X.w, X.mg, none, none⟩ : Kw) = C.K from hK]
    cases e3 : m (os.map some) with
    | bad => simp only [e3] at q2; exact q2.elim
    | ok r ρa =>
      simp only [e3] at q2
      intro F' H' v g' s' ro
      obtain ⟨s3, g3⟩ := s2.after0 no g' s'.sub s'.tb
      refine q2 F' H' v g3 s3 ⟨ro.1, fun io a ea => ?_⟩
      have hn : H2 a = none := ((ro.2 io a ea).2).resolve_right (no a)
      refine ⟨fun z => ?_, .inl hn⟩
      obtain ⟨_, u, hu⟩ := own.at s2 z
      rw [hn] at hu; cases hu
    | ex y ρa =>
      simp only [e3] at q2
      intro F' H' cls d g' s' xr
      obtain ⟨s3, g3⟩ := s2.after0 no g' s'.sub s'.tb
      exact q2 F' H' cls d g3 s3 xr
theorem o_fnP0 {mk : M (List Arg)} (F : FnG X.prog X.w X.K X.mg X.base (L2.CX X.prog X.w) k f fd ps (spI X.K X.w X.mg C.XR n m)) (hG : X.A.guards = some []) (hr : Room k X.A) (hg : Gl X x) (hm : X.mg x = some (.ref f)) (hk : PySem.W.keepIn X.K (.ref f) = true) (hb : BindsP X.K fd ps ks 0 n2 π) (ok : pkOk X.K (0 + n2) π) (hn : π.length = n) (hs : forget π = sm) (tk : Takes X C.W) (hkw : PK X kws (tL C mk))
    (h2 : LenOk mk n2) (hall : (backToKw pos (keywordEach kws X.env)).all (·.1.isSome) = true := by rfl) (hks : (backToKw pos (keywordEach kws X.env)).filterMap (·.1) = ks := by rfl)
    (hdb : (x == ("__debug__" : Str)) = false := by decide)
    (hpl : ((backTo pos (starEach [] X.env)).any (·.1) || (backToKw pos (keywordEach kws X.env)).any (·.1.isNone)) = false := by rfl) (hK : (⟨X.K, X.w, X.mg, none, none⟩ : Kw) = C.K := by rfl) : PE X (.Call (.Name x p) [] kws pos) (tO C (mCall m (mPick sm (mApp mNil mk)))) := by
  subst hs
  refine ⟨fun pins s σ H Q I ⟨F0, ρ, sr, pp⟩ => ?_⟩
  refine wpAny_Call_Name_kw (ld_glob I hg hm ?_ hdb)
  obtain ⟨F1, ρ1, s1, go⟩ := pick_go hK ok hn (n1 := 0) ll_nil h2 sr pp
  have go := go F1 H [] Grow.refl s1 .nil
  refine PySem.W.callWith_KW0 (h₀ := X.base) I.ok.mod.kin hk hall ?_ hpl
  refine thn (hkw.run pos pins s σ H _ I go) fun ws s2 ⟨zs, H2, I2, rz, ⟨l1, l2⟩, q2⟩ => ⟨I2.kIn, ?_⟩
  rw [hks]
  have bt := hb s2 [] ws I2.kIn rfl (by rw [← rz.length]; exact l2)
  refine wpAny_call (codeAny_mono (F.run X.A X.stack s2 H2 ⟨[], ks.zip ws⟩ _ (pkV π ([] ++ zs)) Q (WE C.W σ) hG hr I2.env0 bt (pkVals ok rz) q2) fun res s' q => ?_)
  match res, q with
  | .error e, q => exact passAt tk σ pins H2 s2 e s' I2 q
  | .ok (.ret u), q => exact I2.after q
end
section
variable {ρ : Rho}
theorem v_pick (π : List (Nat ⊕ PyData)) (ms : M (List Arg)) : mPick π ms ρ = (ms ρ).go fun as => M.ret (pkA π as) := rfl
theorem v_pk0 (as : List Arg) : pkA [] as = [] := rfl
theorem v_pkl (i : Nat) (π : List (Nat ⊕ PyData)) (as : List Arg) : pkA (.inl i :: π) as = as.getD i (.dat .none) :: pkA π as := rfl
theorem v_pkr (d : PyData) (π : List (Nat ⊕ PyData)) (as : List Arg) : pkA (.inr d :: π) as = .dat d :: pkA π as := rfl
end
end Eg
namespace Eg
open PySem L2 PySem.W PySem.SeqAt
def aMulW (x y : PyData) : Option OD := match x, y with
  | .int i, .int j => if i.natAbs.log2 < 400000 ∧ j.natAbs.log2 < 400000 then some (.sh (.int (i * j))) else none
  | x, y => aMul x y
def gFloorW : PyData → PyData → Option PyData
  | .int i, .int j => if 0 < j ∧ j.natAbs.log2 < 8000 then some (.int (i / j)) else none
  | _, _ => none
theorem ao_mulW [Tbs] {X : Cx} : OpO X (binaryOp .Mult) aMulW := by
  intro pins s σ F H x y v u dx dy o Q I rx ry sub h1 h2 e q
  unfold aMulW at e
  split at e
  · split at e <;> cases e
    rename_i hz
    cases h1; cases h2
    exact op_mulW pins s σ H _ _ v u Q I rx ry ⟨_, _, rfl, rfl, by unfold CMulW; omega, q _ _ _ (.asis (.int _))⟩
  · exact ao_mul pins s σ F H x y v u dx dy o Q I rx ry sub h1 h2 e q
theorem od_floorW [Tbs] {X : Cx} : OpD X (binaryOp .FloorDiv) gFloorW := opd_int op_fdivW fun x y d e => by
  cases x <;> cases y <;> simp only [gFloorW] at e <;> first | cases e | skip
  split at e <;> cases e
  rename_i h
  exact ⟨_, _, rfl, rfl, ⟨h.1, by have := h.2; omega⟩, rfl⟩
theorem log_lt {i : Int} {k : Nat} (h : i.natAbs < 2 ^ k) (h0 : 0 < k) : i.natAbs.log2 < k := by
  by_cases z : i.natAbs = 0
  · rw [z]; show 0 < k; exact h0
  · exact (Nat.log2_lt z).mpr h
theorem gMulW_int {i j : Int} {a b : Nat} (h1 : i.natAbs < 2 ^ a) (h2 : j.natAbs < 2 ^ b) (ha : 0 < a ∧ a ≤ 400000 := by decide) (hb : 0 < b ∧ b ≤ 400000 := by decide) : aMulW (.int i) (.int j) = some (.sh (.int (i * j))) := by
  have x := log_lt h1 ha.1
  have y := log_lt h2 hb.1
  simp only [aMulW]
  rw [if_pos ⟨by omega, by omega⟩]
theorem gFloorW_int {i j : Int} {b : Nat} (h : 0 < j) (h2 : j.natAbs < 2 ^ b) (hb : 0 < b ∧ b ≤ 8000 := by decide) : gFloorW (.int i) (.int j) = some (.int (i / j)) := by
  have y := log_lt h2 hb.1
  simp only [gFloorW]
  rw [if_pos ⟨h, by omega⟩]
end Eg
namespace Lw
open PySem L2 PySem.W PySem.SeqAt Eg
end Lw
namespace Lw
open PySem L2 PySem.W PySem.SeqAt Eg
end Lw
namespace Eg
open PySem L2 PySem.W PySem.SeqAt
theorem gGt_int (a b : Int) : gGt (.int a) (.int b) = some (.bool (decide (b < a))) := by
  simp [gGt, cmpOk, alike, isNon, small, PyData.depth, dataLt_int]
theorem gLt_int (a b : Int) : gLt (.int a) (.int b) = some (.bool (decide (a < b))) := by
  simp [gLt, cmpOk, alike, isNon, small, PyData.depth, dataLt_int]
theorem gGe_int (a b : Int) : gGe (.int a) (.int b) = some (.bool (decide (b ≤ a))) := by
  simp [gGe, cmpOk, alike, isNon, small, PyData.depth, dataLt_int]
  by_cases h : a < b
  · simp [h]
  · simp [h]
    omega
theorem gEq_int (a b : Int) : gEq (.int a) (.int b) = some (.bool (decide (a = b))) := by
  simp [gEq, small, PyData.depth, PyData.eqv]
  rfl
theorem gNe_int (a b : Int) : gNe (.int a) (.int b) = some (.bool (decide (a ≠ b))) := by
  simp [gNe, small, PyData.depth, PyData.eqv]
  rfl
theorem gMod_int {a b : Int} (h : 0 < b) : gMod (.int a) (.int b) = some (.int (a % b)) := by simp [gMod, h]
theorem gPow_int {a b : Int} (h : 0 ≤ b ∧ b ≤ 1000000 ∧ a.natAbs < 2 ^ 64) : gPow (.int a) (.int b) = some (.int (a ^ b.toNat)) := by simp only [gPow]; rw [if_pos h]
def tapD (cells : List PyData) (spot rest calls : Int) : List (Key × PyData) := [(.inr "cells", .list cells), (.inr "spot", .int spot), (.inr "rest", .int rest), (.inr "calls", .int calls)]
section
variable (c : List PyData) (s r k : Int)
end
end Eg
namespace Lw
open PySem L2 PySem.W PySem.SeqAt Eg
theorem h4 : 4 < sizeLine := by decide
theorem gLen_list (c : List PyData) : gLen [.list c] = some (.sh (.int c.length)) := rfl
theorem cell_at {c : List PyData} {s : Int} (hc : ∀ d ∈ c, ∃ i, d = PyData.int i) (h : 0 < (c.length : Int)) : ∃ x, gIx (.list c) (.int (s % c.length)) = some (.int x) := by
  have h1 := Int.emod_nonneg s (Int.ne_of_gt h)
  have h2 := Int.emod_lt_of_pos s h
  have e : gIx (.list c) (.int (s % c.length)) = c[(s % c.length).toNat]? := by
    show L2.atI c (s % c.length) = _
    unfold L2.atI ixN
    simp [h1, h2]
  have hl : (s % c.length).toNat < c.length := by omega
  obtain ⟨x, ex⟩ := hc c[(s % c.length).toNat] (List.getElem_mem hl)
  exact ⟨x, by rw [e, List.getElem?_eq_getElem hl, ex]⟩
end Lw
namespace Lw
open PySem L2 PySem.W PySem.SeqAt Eg
abbrev Hand := Str × Str
def hd (h : Hand) : PyData := .tuple [.str h.1, .str h.2]
def pd (p : Hand × Hand) : PyData := .tuple [hd p.1, hd p.2]
def dle (x y : PyData) : Bool := dataLe false id x y
theorem hd_alike (h g : Hand) : alike (hd h) (hd g) = true := by simp [hd, alike, alikeAll]
theorem hd_small (h : Hand) : small (hd h) = true := by simp [hd, small, PyData.depth, PyData.depthAll]
def lt (h g : Hand) : Bool := dataLt (hd h) (hd g)
def lo (h g : Hand) : Hand := if lt g h = true then g else h
def hi (h g : Hand) : Hand := if lt h g = true then g else h
def mm (h g : Hand) : Hand × Hand := (lo h g, hi h g)
def rise : List Hand → List (Hand × Hand)
  | [] => []
  | x :: xs => xs.map (fun y => (x, y)) ++ rise xs
def sortH (l : List Hand) : List Hand := l.mergeSort fun a b => dle (hd a) (hd b)
theorem sortH_map (l : List Hand) : sortD (l.map hd) = (sortH l).map hd := (List.map_mergeSort (s := dataLe false id) fun a _ b _ => rfl).symm
theorem sortH_perm (l : List Hand) : (sortH l).Perm l := List.mergeSort_perm _ _
end Lw
namespace Lw
open PySem L2 PySem.W PySem.SeqAt Eg
def TapAt (kvs : List (Key × PyData)) (n : Nat) : Prop := ∃ c s r k, kvs = tapD c s r k ∧ (∀ d ∈ c, ∃ i, d = PyData.int i) ∧ 0 ≤ s ∧ 0 ≤ k ∧ k ≤ n
theorem TapAt.mono {kvs : List (Key × PyData)} {n m : Nat} (h : TapAt kvs n) (l : n ≤ m) : TapAt kvs m := by
  obtain ⟨c, s, r, k, h1, h2, h3, h4, h5⟩ := h
  exact ⟨c, s, r, k, h1, h2, h3, h4, by omega⟩
def five : List Str := ["ash", "b", "elm", "oak", "zzzzzzzz"]
theorem gMin_int (a b : Int) : gMin [.int a, .int b] = some (.sh (.int (if b < a then b else a))) := by
  simp [gMin, pairOk, alike, Eg.isNon, small, PyData.depth, isLst, dataLt_int]
  split <;> rfl
theorem gLen_any (l : List PyData) : gLen [.list l] = some (.sh (.int l.length)) := rfl
end Lw
namespace Lw
open PySem L2 PySem.W PySem.SeqAt Eg
theorem sortOk_hd (l : List Hand) (h : l.length ≤ 1000) : sortOk (l.map hd) = true := by
  have z := sizeLine_eq
  simp only [sortOk, alikeB, Bool.and_eq_true, Bool.or_eq_true, List.all_eq_true, decide_eq_true_eq, List.mem_map, forall_exists_index, and_imp, forall_apply_eq_imp_iff₂, List.length_map]
  exact ⟨⟨⟨fun a _ b _ => hd_alike a b, .inl fun a _ => rfl⟩, fun a _ => hd_small a⟩, by omega⟩
end Lw
namespace Lw
open PySem L2 PySem.W PySem.SeqAt Eg
end Lw
namespace Lw
open PySem L2 PySem.W PySem.SeqAt Eg
structure Row where
  p : Hand × Hand
  a : Int
  b : Int
  place : Str
  giver : Str
  u : Int
  free : Int
  here : Bool
def rd (r : Row) : PyData := .tuple [pd r.p, .tuple [.int r.a, .int r.b], .str r.place, .str r.giver, .int r.u, .int r.free, .bool r.here]
structure Lot where
  turn : Int
  floor : Int
  rows : List Row
def lotD (l : Lot) : PyData := .tuple [.int l.turn, .int l.floor, .tuple (l.rows.map rd)]
end Lw
namespace Lw
open PySem L2 PySem.W PySem.SeqAt Eg
def IntF (i : Int) : Prop := (PyData.int i).showable = true ∧ (PyData.int i).shown.length ≤ 50
instance : DecidablePred IntF := fun i => by unfold IntF; infer_instance
def StrF (x : Str) : Prop := (reprText x).length ≤ 20
instance : DecidablePred StrF := fun i => by unfold StrF; infer_instance
def PairF (p : Hand × Hand) : Prop := (StrF p.1.1 ∧ StrF p.1.2) ∧ StrF p.2.1 ∧ StrF p.2.2
structure RowF (r : Row) : Prop where
  p : PairF r.p
  a : IntF r.a
  b : IntF r.b
  place : StrF r.place
  giver : StrF r.giver
  u : IntF r.u
  free : IntF r.free
theorem _root_.Eg.Sh.mono {n m k l : Nat} {d : PyData} (h : Sh n k d) (hn : n ≤ m) (hk : k ≤ l) : Sh m l d := ⟨h.1, Nat.le_trans h.2.1 hn, Nat.le_trans h.2.2 hk⟩
theorem Sh.int {i : Int} (h : IntF i) : Sh 50 0 (.int i) := ⟨h.1, h.2, by rw [PyData.depth]; exact Nat.le_refl _⟩
theorem Sh.bool (b : Bool) : Sh 50 0 (.bool b) := by cases b <;> exact ⟨by rw [PyData.showable], by decide +kernel, by rw [PyData.depth]; exact Nat.le_refl _⟩
theorem Sh.none : Sh 50 0 .none := ⟨by rw [PyData.showable], by decide +kernel, by rw [PyData.depth]; exact Nat.le_refl _⟩
theorem Sh.strF {x : Str} (h : StrF x) : Sh 50 0 (.str x) := (Sh.str h).mono (by decide) (Nat.le_refl _)
theorem Sh.hd {h : Hand} (a : StrF h.1) (b : StrF h.2) : Sh 107 1 (hd h) := Sh.tuple (n := 50) (k := 0) (m := 2) (fun d hd => by
  simp at hd
  rcases hd with rfl | rfl
  · exact Sh.strF a
  · exact Sh.strF b) (Nat.le_refl _)
theorem Sh.pd {p : Hand × Hand} (h : PairF p) : Sh 221 2 (pd p) := Sh.tuple (n := 107) (k := 1) (m := 2) (fun d hd => by
  simp at hd
  rcases hd with rfl | rfl
  · exact Sh.hd h.1.1 h.1.2
  · exact Sh.hd h.2.1 h.2.2) (Nat.le_refl _)
theorem Sh.rd {r : Row} (h : RowF r) : Sh 1564 3 (rd r) := Sh.tuple (n := 221) (k := 2) (m := 7) (fun d hd => by
  simp at hd
  rcases hd with rfl | rfl | rfl | rfl | rfl | rfl | rfl
  · exact Sh.pd h.p
  · refine Sh.mono (Sh.tuple (n := 50) (k := 0) (m := 2) (ds := [.int r.a, .int r.b]) (fun d hd => ?_) (Nat.le_refl 2)) (by decide) (by decide)
    simp at hd
    rcases hd with rfl | rfl
    · exact Sh.int h.a
    · exact Sh.int h.b
  · exact (Sh.strF h.place).mono (by decide) (by decide)
  · exact (Sh.strF h.giver).mono (by decide) (by decide)
  · exact (Sh.int h.u).mono (by decide) (by decide)
  · exact (Sh.int h.free).mono (by decide) (by decide)
  · exact (Sh.bool r.here).mono (by decide) (by decide)) (Nat.le_refl _)
structure LotF (l : Lot) : Prop where
  turn : IntF l.turn
  floor : IntF l.floor
  len : l.rows.length ≤ 100
  rows : ∀ r ∈ l.rows, RowF r
end Lw
namespace Lw
open PySem L2 PySem.W PySem.SeqAt Eg
end Lw
namespace Eg
open PySem L2 PySem.W PySem.SeqAt
theorem isT (b : Bool) : gIsB true (.bool b) = some (.bool b) := by cases b <;> rfl
theorem isF (b : Bool) : gIsB false (.bool b) = some (.bool (!b)) := by cases b <;> rfl
theorem notT (b : Bool) : gNotB true (.bool b) = some (.bool (!b)) := by cases b <;> rfl
theorem notF (b : Bool) : gNotB false (.bool b) = some (.bool b) := by cases b <;> rfl
theorem tuT (ds : List PyData) : gTuple [.tuple ds] = some (.sh (.tuple ds)) := rfl
theorem aAdd_int (a b : Int) : aAdd (.int a) (.int b) = some (.sh (.int (a + b))) := rfl
theorem gLen_list (c : List PyData) : gLen [.list c] = some (.sh (.int c.length)) := rfl
theorem gLen_tup (c : List PyData) : gLen [.tuple c] = some (.sh (.int c.length)) := rfl
theorem gLe_int (a b : Int) : gLe (.int a) (.int b) = some (.bool (decide (a ≤ b))) := by
  simp [gLe, cmpOk, alike, Eg.isNon, small, PyData.depth, dataLt_int]
  by_cases h : b < a
  · simp [h]
  · simp [h]; omega
theorem isN_n : gIsN .none = some (.bool true) := rfl
theorem isN_t (d : List PyData) : gIsN (.tuple d) = some (.bool false) := rfl
theorem isN_l (d : List PyData) : gIsN (.list d) = some (.bool false) := rfl
theorem isN_s (d : Str) : gIsN (.str d) = some (.bool false) := rfl
theorem isN_i (d : Int) : gIsN (.int d) = some (.bool false) := rfl
theorem isN_b (d : Bool) : gIsN (.bool d) = some (.bool false) := rfl
theorem notN_n : gNotN .none = some (.bool false) := rfl
theorem notN_t (d : List PyData) : gNotN (.tuple d) = some (.bool true) := rfl
theorem notN_l (d : List PyData) : gNotN (.list d) = some (.bool true) := rfl
theorem notN_s (d : Str) : gNotN (.str d) = some (.bool true) := rfl
theorem notN_i (d : Int) : gNotN (.int d) = some (.bool true) := rfl
theorem notN_b (d : Bool) : gNotN (.bool d) = some (.bool true) := rfl
theorem ix_t0 (a0 : PyData) (l : List PyData) : gIx (.tuple (a0 :: l)) (.int 0) = some a0 := by
  show L2.atI _ _ = _
  unfold L2.atI ixN
  simp
  first | done | (rw [if_pos (by omega)]; rfl)
theorem ix_t1 (a0 a1 : PyData) (l : List PyData) : gIx (.tuple (a0 :: a1 :: l)) (.int 1) = some a1 := by
  show L2.atI _ _ = _
  unfold L2.atI ixN
  simp
  first | done | (rw [if_pos (by omega)]; rfl)
theorem ix_t2 (a0 a1 a2 : PyData) (l : List PyData) : gIx (.tuple (a0 :: a1 :: a2 :: l)) (.int 2) = some a2 := by
  show L2.atI _ _ = _
  unfold L2.atI ixN
  simp
  first | done | (rw [if_pos (by omega)]; rfl)
theorem ix_t3 (a0 a1 a2 a3 : PyData) (l : List PyData) : gIx (.tuple (a0 :: a1 :: a2 :: a3 :: l)) (.int 3) = some a3 := by
  show L2.atI _ _ = _
  unfold L2.atI ixN
  simp
  first | done | (rw [if_pos (by omega)]; rfl)
theorem ix_t4 (a0 a1 a2 a3 a4 : PyData) (l : List PyData) : gIx (.tuple (a0 :: a1 :: a2 :: a3 :: a4 :: l)) (.int 4) = some a4 := by
  show L2.atI _ _ = _
  unfold L2.atI ixN
  simp
  first | done | (rw [if_pos (by omega)]; rfl)
theorem ix_t5 (a0 a1 a2 a3 a4 a5 : PyData) (l : List PyData) : gIx (.tuple (a0 :: a1 :: a2 :: a3 :: a4 :: a5 :: l)) (.int 5) = some a5 := by
  show L2.atI _ _ = _
  unfold L2.atI ixN
  simp
  first | done | (rw [if_pos (by omega)]; rfl)
theorem ix_t6 (a0 a1 a2 a3 a4 a5 a6 : PyData) (l : List PyData) : gIx (.tuple (a0 :: a1 :: a2 :: a3 :: a4 :: a5 :: a6 :: l)) (.int 6) = some a6 := by
  show L2.atI _ _ = _
  unfold L2.atI ixN
  simp
  first | done | (rw [if_pos (by omega)]; rfl)
theorem tyIs_int_int (i : Int) : gTyIs "int" (.int i) = some (.bool true) := rfl
theorem tyNot_int_int (i : Int) : gTyNot "int" (.int i) = some (.bool false) := rfl
theorem tyIs_int_bool (i : Bool) : gTyIs "int" (.bool i) = some (.bool false) := rfl
theorem tyNot_int_bool (i : Bool) : gTyNot "int" (.bool i) = some (.bool true) := rfl
theorem tyIs_int_str (i : Str) : gTyIs "int" (.str i) = some (.bool false) := rfl
theorem tyNot_int_str (i : Str) : gTyNot "int" (.str i) = some (.bool true) := rfl
theorem tyIs_int_list (i : List PyData) : gTyIs "int" (.list i) = some (.bool false) := rfl
theorem tyNot_int_list (i : List PyData) : gTyNot "int" (.list i) = some (.bool true) := rfl
theorem tyIs_int_tuple (i : List PyData) : gTyIs "int" (.tuple i) = some (.bool false) := rfl
theorem tyNot_int_tuple (i : List PyData) : gTyNot "int" (.tuple i) = some (.bool true) := rfl
theorem tyIs_int_NoneType : gTyIs "int" (.none) = some (.bool false) := rfl
theorem tyNot_int_NoneType : gTyNot "int" (.none) = some (.bool true) := rfl
theorem tyIs_bool_int (i : Int) : gTyIs "bool" (.int i) = some (.bool false) := rfl
theorem tyNot_bool_int (i : Int) : gTyNot "bool" (.int i) = some (.bool true) := rfl
theorem tyIs_bool_bool (i : Bool) : gTyIs "bool" (.bool i) = some (.bool true) := rfl
theorem tyNot_bool_bool (i : Bool) : gTyNot "bool" (.bool i) = some (.bool false) := rfl
theorem tyIs_bool_str (i : Str) : gTyIs "bool" (.str i) = some (.bool false) := rfl
theorem tyNot_bool_str (i : Str) : gTyNot "bool" (.str i) = some (.bool true) := rfl
theorem tyIs_bool_list (i : List PyData) : gTyIs "bool" (.list i) = some (.bool false) := rfl
theorem tyNot_bool_list (i : List PyData) : gTyNot "bool" (.list i) = some (.bool true) := rfl
theorem tyIs_bool_tuple (i : List PyData) : gTyIs "bool" (.tuple i) = some (.bool false) := rfl
theorem tyNot_bool_tuple (i : List PyData) : gTyNot "bool" (.tuple i) = some (.bool true) := rfl
theorem tyIs_bool_NoneType : gTyIs "bool" (.none) = some (.bool false) := rfl
theorem tyNot_bool_NoneType : gTyNot "bool" (.none) = some (.bool true) := rfl
theorem tyIs_str_int (i : Int) : gTyIs "str" (.int i) = some (.bool false) := rfl
theorem tyNot_str_int (i : Int) : gTyNot "str" (.int i) = some (.bool true) := rfl
theorem tyIs_str_bool (i : Bool) : gTyIs "str" (.bool i) = some (.bool false) := rfl
theorem tyNot_str_bool (i : Bool) : gTyNot "str" (.bool i) = some (.bool true) := rfl
theorem tyIs_str_str (i : Str) : gTyIs "str" (.str i) = some (.bool true) := rfl
theorem tyNot_str_str (i : Str) : gTyNot "str" (.str i) = some (.bool false) := rfl
theorem tyIs_str_list (i : List PyData) : gTyIs "str" (.list i) = some (.bool false) := rfl
theorem tyNot_str_list (i : List PyData) : gTyNot "str" (.list i) = some (.bool true) := rfl
theorem tyIs_str_tuple (i : List PyData) : gTyIs "str" (.tuple i) = some (.bool false) := rfl
theorem tyNot_str_tuple (i : List PyData) : gTyNot "str" (.tuple i) = some (.bool true) := rfl
theorem tyIs_str_NoneType : gTyIs "str" (.none) = some (.bool false) := rfl
theorem tyNot_str_NoneType : gTyNot "str" (.none) = some (.bool true) := rfl
theorem tyIs_list_int (i : Int) : gTyIs "list" (.int i) = some (.bool false) := rfl
theorem tyNot_list_int (i : Int) : gTyNot "list" (.int i) = some (.bool true) := rfl
theorem tyIs_list_bool (i : Bool) : gTyIs "list" (.bool i) = some (.bool false) := rfl
theorem tyNot_list_bool (i : Bool) : gTyNot "list" (.bool i) = some (.bool true) := rfl
theorem tyIs_list_str (i : Str) : gTyIs "list" (.str i) = some (.bool false) := rfl
theorem tyNot_list_str (i : Str) : gTyNot "list" (.str i) = some (.bool true) := rfl
theorem tyIs_list_list (i : List PyData) : gTyIs "list" (.list i) = some (.bool true) := rfl
theorem tyNot_list_list (i : List PyData) : gTyNot "list" (.list i) = some (.bool false) := rfl
theorem tyIs_list_tuple (i : List PyData) : gTyIs "list" (.tuple i) = some (.bool false) := rfl
theorem tyNot_list_tuple (i : List PyData) : gTyNot "list" (.tuple i) = some (.bool true) := rfl
theorem tyIs_list_NoneType : gTyIs "list" (.none) = some (.bool false) := rfl
theorem tyNot_list_NoneType : gTyNot "list" (.none) = some (.bool true) := rfl
theorem tyIs_tuple_int (i : Int) : gTyIs "tuple" (.int i) = some (.bool false) := rfl
theorem tyNot_tuple_int (i : Int) : gTyNot "tuple" (.int i) = some (.bool true) := rfl
theorem tyIs_tuple_bool (i : Bool) : gTyIs "tuple" (.bool i) = some (.bool false) := rfl
theorem tyNot_tuple_bool (i : Bool) : gTyNot "tuple" (.bool i) = some (.bool true) := rfl
theorem tyIs_tuple_str (i : Str) : gTyIs "tuple" (.str i) = some (.bool false) := rfl
theorem tyNot_tuple_str (i : Str) : gTyNot "tuple" (.str i) = some (.bool true) := rfl
theorem tyIs_tuple_list (i : List PyData) : gTyIs "tuple" (.list i) = some (.bool false) := rfl
theorem tyNot_tuple_list (i : List PyData) : gTyNot "tuple" (.list i) = some (.bool true) := rfl
theorem tyIs_tuple_tuple (i : List PyData) : gTyIs "tuple" (.tuple i) = some (.bool true) := rfl
theorem tyNot_tuple_tuple (i : List PyData) : gTyNot "tuple" (.tuple i) = some (.bool false) := rfl
theorem tyIs_tuple_NoneType : gTyIs "tuple" (.none) = some (.bool false) := rfl
theorem tyNot_tuple_NoneType : gTyNot "tuple" (.none) = some (.bool true) := rfl
end Eg
local macro_rules | `(tactic| simp! only [$ls,*]) => `(tactic| simp -implicitDefEqProofs only [Eg.v_bind, Eg.v_go, Eg.v_ret, Eg.v_get, Eg.v_lift, Eg.v_opt, Eg.v_seq, Eg.v_sqn, Eg.v_sqr, Eg.v_sqb, Eg.v_sqc, Eg.v_set, Eg.v_sret, Eg.v_if, Eg.v_mif, Eg.v_next, Eg.v_expr, Eg.v_dat, Eg.v_slot, Eg.v_sd, Eg.v_so, Eg.v_m2, Eg.v_m2k, Eg.v_m1, Eg.v_m1k, Eg.v_mL, Eg.v_mLk, Eg.v_rl0, Eg.v_rl1, Eg.v_nil, Eg.v_cons, Eg.v_fix, Eg.v_fix0, Eg.v_fix1, Eg.v_fzs, Eg.v_fzo, Eg.v_ab, Eg.v_not, Eg.v_and, Eg.v_or, Eg.v_ai, Eg.v_fn, Eg.v_fin, Eg.v_fin2, Eg.v_kp0, Eg.v_kpt, Eg.v_kpf, Eg.v_slo, Eg.v_mslot, Eg.v_name, Eg.v_nms, Eg.v_nmo, Eg.v_take, Eg.v_tks, Eg.v_tko, Eg.v_has, Eg.v_hask, Eg.v_dget, Eg.v_dgk, Eg.v_dgo, Eg.v_put, Eg.v_putk, Eg.v_puto, Eg.v_app, Eg.v_apo, Eg.v_ol, Eg.v_olk, Eg.v_callO, Eg.v_coK, Eg.v_coO, Eg.v_coR, Eg.v_as0, Eg.v_asd, Eg.v_ass, Eg.v_asod, Eg.v_asoc, Eg.v_ason, Eg.v_call, Eg.v_caO, Eg.v_caR, Eg.v_for, Eg.v_lpO, Eg.v_lpn, Eg.v_lpr, Eg.v_tn, Eg.v_sil, Eg.v_sit, Eg.v_par, Eg.v_un, List.map_cons, List.map_nil, List.getElem?_cons_zero, List.getElem?_cons_succ, List.set_cons_zero, List.set_cons_succ, List.replicate_succ, List.replicate_zero, List.cons_append, List.nil_append, Option.bind_eq_bind, Option.bind_some, Option.map_some, if_true, Bool.false_eq_true, if_false, Bool.not_true, Bool.not_false, Eg.v_chain, Eg.v_op2, Eg.v_txt, Eg.v_tt, Eg.v_tl, Eg.v_go0, Eg.v_go1, Eg.isT, Eg.isF, Eg.notT, Eg.notF, Eg.v_truB, Eg.v_truI, Eg.v_truL, Eg.v_truT, Eg.v_truN, Eg.v_andV, Eg.v_orV, Eg.v_notV, Eg.v_neg, Eg.tp0, Eg.tp1, Eg.tp2, Eg.tp3, Eg.tp4, Eg.tp5, Eg.tp6, Eg.tp7, Eg.ls0, Eg.ls1, Eg.ls2, Eg.ls3, Eg.ls4, Eg.ls5, Eg.ls6, Eg.ls7, Eg.tuL, Eg.tuT, decide_true, decide_false, Eg.v_sl, Eg.gLen_list, Eg.gLen_tup, Eg.gGt_int, Eg.gLt_int, Eg.gGe_int, Eg.gLe_int, Eg.gEq_int, Eg.gNe_int, Eg.aAdd_int, Eg.v_app2, Eg.gNe_strR, Eg.gEq_strR, List.isEmpty_nil, List.isEmpty_cons, Bool.true_and, Bool.false_and, Bool.and_true, Bool.and_false, eq_self, Option.getD_some, Eg.isN_n, Eg.isN_t, Eg.isN_l, Eg.isN_s, Eg.isN_i, Eg.isN_b, Eg.notN_n, Eg.notN_t, Eg.notN_l, Eg.notN_s, Eg.notN_i, Eg.notN_b, Eg.ix_t0, Eg.ix_t1, Eg.ix_t2, Eg.ix_t3, Eg.ix_t4, Eg.ix_t5, Eg.ix_t6, Eg.tyIs_int_int, Eg.tyNot_int_int, Eg.tyIs_int_bool, Eg.tyNot_int_bool, Eg.tyIs_int_str, Eg.tyNot_int_str, Eg.tyIs_int_list, Eg.tyNot_int_list, Eg.tyIs_int_tuple, Eg.tyNot_int_tuple, Eg.tyIs_int_NoneType, Eg.tyNot_int_NoneType, Eg.tyIs_bool_int, Eg.tyNot_bool_int, Eg.tyIs_bool_bool, Eg.tyNot_bool_bool, Eg.tyIs_bool_str, Eg.tyNot_bool_str, Eg.tyIs_bool_list, Eg.tyNot_bool_list, Eg.tyIs_bool_tuple, Eg.tyNot_bool_tuple, Eg.tyIs_bool_NoneType, Eg.tyNot_bool_NoneType, Eg.tyIs_str_int, Eg.tyNot_str_int, Eg.tyIs_str_bool, Eg.tyNot_str_bool, Eg.tyIs_str_str, Eg.tyNot_str_str, Eg.tyIs_str_list, Eg.tyNot_str_list, Eg.tyIs_str_tuple, Eg.tyNot_str_tuple, Eg.tyIs_str_NoneType, Eg.tyNot_str_NoneType, Eg.tyIs_list_int, Eg.tyNot_list_int, Eg.tyIs_list_bool, Eg.tyNot_list_bool, Eg.tyIs_list_str, Eg.tyNot_list_str, Eg.tyIs_list_list, Eg.tyNot_list_list, Eg.tyIs_list_tuple, Eg.tyNot_list_tuple, Eg.tyIs_list_NoneType, Eg.tyNot_list_NoneType, Eg.tyIs_tuple_int, Eg.tyNot_tuple_int, Eg.tyIs_tuple_bool, Eg.tyNot_tuple_bool, Eg.tyIs_tuple_str, Eg.tyNot_tuple_str, Eg.tyIs_tuple_list, Eg.tyNot_tuple_list, Eg.tyIs_tuple_tuple, Eg.tyNot_tuple_tuple, Eg.tyIs_tuple_NoneType, Eg.tyNot_tuple_NoneType, $ls,*])
namespace Eg
open PySem L2 PySem.W PySem.SeqAt
mutual
def wt : PyData → Nat
  | .none => 4
  | .bool _ => 5
  | .int i => (PyData.int i).shown.length
  | .str x => (PyData.str x).shown.length + x.length + 2
  | .list ds => wtAll ds + 3
  | .tuple ds => wtAll ds + 3
  | .dict _ => 0
def wtAll : List PyData → Nat
  | [] => 0
  | d :: ds => wt d + 2 + wtAll ds
end
mutual
def good (m : Nat) : PyData → Bool
  | .none => true
  | .bool _ => true
  | .int i => decide (i.natAbs < 10 ^ m)
  | .str _ => true
  | .list ds => goodAll m ds
  | .tuple ds => goodAll m ds
  | .dict _ => false
def goodAll (m : Nat) : List PyData → Bool
  | [] => true
  | d :: ds => good m d && goodAll m ds
end
theorem goodAll_mem {m : Nat} : ∀ {ds : List PyData}, goodAll m ds = true ↔ ∀ d ∈ ds, good m d = true
  | [] => by simp [goodAll]
  | d :: ds => by
    have := goodAll_mem (m := m) (ds := ds)
    simp [goodAll, this]
mutual
theorem good_mono {m m' : Nat} (h : m ≤ m') : ∀ d : PyData, good m d = true → good m' d = true
  | .none, _ => by rw [good]
  | .bool _, _ => by rw [good]
  | .str _, _ => by rw [good]
  | .int i, g => by
    rw [good] at g ⊢
    exact decide_eq_true (Nat.lt_of_lt_of_le (of_decide_eq_true g) (Nat.pow_le_pow_right (by decide) h))
  | .list ds, g => by rw [good] at g ⊢; exact goodAll_mono h ds g
  | .tuple ds, g => by rw [good] at g ⊢; exact goodAll_mono h ds g
  | .dict _, g => by simp [good] at g
theorem goodAll_mono {m m' : Nat} (h : m ≤ m') : ∀ ds : List PyData, goodAll m ds = true → goodAll m' ds = true
  | [], _ => by rw [goodAll]
  | d :: ds, g => by
    rw [goodAll, Bool.and_eq_true] at g ⊢
    exact ⟨good_mono h d g.1, goodAll_mono h ds g.2⟩
end
theorem wtAll_mem : ∀ {ds : List PyData} {d : PyData}, d ∈ ds → wt d + 2 ≤ wtAll ds
  | e :: ds, d, h => by
    simp only [wtAll]
    rcases List.mem_cons.mp h with rfl | h
    · omega
    · have := wtAll_mem h; omega
theorem wtAll_len : ∀ ds : List PyData, 2 * ds.length ≤ wtAll ds
  | [] => by simp [wtAll]
  | d :: ds => by have := wtAll_len ds; simp [wtAll]; omega
theorem wtAll_sub {ds es : List PyData} (h : List.Sublist ds es) : wtAll ds ≤ wtAll es := by
  induction h with
  | slnil => exact Nat.le_refl _
  | cons a _ ih => simp only [wtAll]; omega
  | cons_cons a _ ih => simp only [wtAll]; omega
mutual
theorem shown_wt {m : Nat} (hm : m ≤ 400) : ∀ d : PyData, good m d = true → d.shown.length ≤ wt d ∧ d.showable = true ∧ alike d d = true
  | .none, _ => by refine ⟨by decide +kernel, by rw [PyData.showable], by simp [alike]⟩
  | .bool b, _ => by cases b <;> exact ⟨by decide +kernel, by rw [PyData.showable], by simp [alike]⟩
  | .int i, h => by
    rw [good] at h
    have f := Fd.int (n := 400) (i := i) (Nat.lt_of_lt_of_le (of_decide_eq_true h) (Nat.pow_le_pow_right (by decide) hm))
    exact ⟨by rw [wt]; exact Nat.le_refl _, f.1.1, f.2⟩
  | .str x, _ => ⟨by rw [wt]; omega, by rw [PyData.showable], by simp [alike]⟩
  | .list ds, h => by
    rw [good] at h
    have := shown_wtAll hm ds h
    refine ⟨?_, by rw [PyData.showable]; exact this.2.1, by rw [alike]; exact this.2.2⟩
    rw [PyData.shown, wt]
    have h1 := listText_most (PyData.shownAll ds)
    omega
  | .tuple ds, h => by
    rw [good] at h
    have := shown_wtAll hm ds h
    refine ⟨?_, by rw [PyData.showable]; exact this.2.1, by rw [alike]; exact this.2.2⟩
    rw [PyData.shown, wt]
    have h1 := tupleText_most (PyData.shownAll ds)
    omega
  | .dict _, h => by simp [good] at h
theorem shown_wtAll {m : Nat} (hm : m ≤ 400) : ∀ ds : List PyData, goodAll m ds = true → PySem.piled (PyData.shownAll ds) ≤ wtAll ds ∧ PyData.showableAll ds = true ∧ alikeAll ds ds = true
  | [], _ => by simp [PyData.shownAll, PySem.piled, PyData.showableAll, alikeAll]
  | d :: ds, h => by
    rw [goodAll, Bool.and_eq_true] at h
    have h1 := shown_wt hm d h.1
    have h2 := shown_wtAll hm ds h.2
    refine ⟨?_, ?_, ?_⟩
    · rw [PyData.shownAll, PySem.piled_cons, wtAll]; omega
    · rw [PyData.showableAll, h1.2.1, h2.2.1]; rfl
    · rw [alikeAll, h1.2.2, h2.2.2]; rfl
end
structure Th (m n k : Nat) (d : PyData) : Prop where
  w : wt d ≤ n
  k : d.depth ≤ k
  g : good m d = true
  m : m ≤ 400
theorem Th.fd {m n k : Nat} {d : PyData} (h : Th m n k d) : Fd n k d := ⟨⟨(shown_wt h.m d h.g).2.1, Nat.le_trans (shown_wt h.m d h.g).1 h.w, h.k⟩, (shown_wt h.m d h.g).2.2⟩
theorem Th.mono {m m' n n' k k' : Nat} {d : PyData} (h : Th m n k d) (hn : n ≤ n') (hk : k ≤ k') (hm : m ≤ m' := by omega) (h4 : m' ≤ 400 := by omega) : Th m' n' k' d := ⟨Nat.le_trans h.w hn, Nat.le_trans h.k hk, good_mono hm d h.g, h4⟩
structure Ths (m n k : Nat) (ds : List PyData) : Prop where
  w : wtAll ds ≤ n
  k : ∀ d ∈ ds, d.depth ≤ k
  g : ∀ d ∈ ds, good m d = true
  m : m ≤ 400
theorem Ths.nil {m n k : Nat} (hm : m ≤ 400) : Ths m n k [] := ⟨Nat.zero_le _, (fun d h => by cases h), (fun d h => by cases h), hm⟩
theorem Ths.cons {m n n' k : Nat} {d : PyData} {ds : List PyData} (h : Th m n k d) (t : Ths m n' k ds) : Ths m (n + 2 + n') k (d :: ds) :=
  ⟨by have := h.w; have := t.w; simp only [wtAll]; omega, fun x hx => by
    rcases List.mem_cons.mp hx with rfl | hx
    · exact h.k
    · exact t.k x hx, fun x hx => by
    rcases List.mem_cons.mp hx with rfl | hx
    · exact h.g
    · exact t.g x hx, h.m⟩
theorem Ths.mono {m m' n n' k k' : Nat} {ds : List PyData} (h : Ths m n k ds) (hn : n ≤ n') (hk : k ≤ k') (hm : m ≤ m' := by omega) (h4 : m' ≤ 400 := by omega) : Ths m' n' k' ds := ⟨Nat.le_trans h.w hn, fun d hd => Nat.le_trans (h.k d hd) hk, fun d hd => good_mono hm d (h.g d hd), h4⟩
theorem Ths.sub {m n k : Nat} {ds es : List PyData} (h : Ths m n k ds) (s : List.Sublist es ds) : Ths m n k es := ⟨Nat.le_trans (wtAll_sub s) h.w, fun d hd => h.k d (s.mem hd), fun d hd => h.g d (s.mem hd), h.m⟩
theorem Ths.len {m n k : Nat} {ds : List PyData} (h : Ths m n k ds) : 2 * ds.length ≤ n := Nat.le_trans (wtAll_len ds) h.w
theorem Ths.mem {m n k : Nat} {ds : List PyData} {d : PyData} (h : Ths m n k ds) (hd : d ∈ ds) : Th m n k d := ⟨by have := wtAll_mem hd; have := h.w; omega, h.k d hd, h.g d hd, h.m⟩
theorem Ths.of {m k : Nat} {ds : List PyData} (hk : ∀ d ∈ ds, d.depth ≤ k) (hg : ∀ d ∈ ds, good m d = true) (hm : m ≤ 400) : Ths m (wtAll ds) k ds := ⟨Nat.le_refl _, hk, hg, hm⟩
theorem Ths.tup {m n k : Nat} {ds : List PyData} (h : Ths m n k ds) : Th m (n + 3) (k + 1) (.tuple ds) := ⟨by rw [wt]; have := h.w; omega, by rw [PyData.depth]; have := depth_all k h.k; omega, by rw [good]; exact goodAll_mem.mpr h.g, h.m⟩
theorem Ths.lst {m n k : Nat} {ds : List PyData} (h : Ths m n k ds) : Th m (n + 3) (k + 1) (.list ds) := ⟨by rw [wt]; have := h.w; omega, by rw [PyData.depth]; have := depth_all k h.k; omega, by rw [good]; exact goodAll_mem.mpr h.g, h.m⟩
theorem Th.int {m n : Nat} {i : Int} (h : i.natAbs < 10 ^ n) (hn : n ≤ m) (hm : m ≤ 400) (h0 : 0 < n := by decide) : Th m (n + 1) 0 (.int i) := by
  have f := Fd.int h h0 (Nat.le_trans hn hm)
  refine ⟨by rw [wt]; exact f.1.2.1, by rw [PyData.depth]; exact Nat.le_refl _, ?_, hm⟩
  rw [good]
  exact decide_eq_true (Nat.lt_of_lt_of_le h (Nat.pow_le_pow_right (by decide) hn))
theorem Th.str {m n : Nat} {x : Str} (h : (reprText x).length + x.length ≤ n) (hm : m ≤ 400) : Th m (n + 2) 0 (.str x) := ⟨by rw [wt, PyData.shown]; omega, by rw [PyData.depth]; exact Nat.le_refl _, by rw [good], hm⟩
theorem Th.bool {m : Nat} (b : Bool) (hm : m ≤ 400) : Th m 5 0 (.bool b) := ⟨by rw [wt]; exact Nat.le_refl _, by rw [PyData.depth]; exact Nat.le_refl _, by rw [good], hm⟩
theorem Th.none {m : Nat} (hm : m ≤ 400) : Th m 4 0 .none := ⟨by rw [wt]; exact Nat.le_refl _, by rw [PyData.depth]; exact Nat.le_refl _, by rw [good], hm⟩
def thB (m n k : Nat) (d : PyData) : Bool := decide (wt d ≤ n) && decide (d.depth ≤ k) && good m d
theorem Th.ofB {m n k : Nat} {d : PyData} (h : thB m n k d = true) (hm : m ≤ 400) : Th m n k d := by
  simp only [thB, Bool.and_eq_true, decide_eq_true_eq] at h
  exact ⟨h.1.1, h.1.2, h.2, hm⟩
theorem isi_i (i : Int) : gIsi "int" (.int i) = some (.bool true) := by
  show Option.map PyData.bool (kitB "int" "int") = _
  rw [show kitB "int" "int" = some true by decide +kernel]; rfl
theorem isi_b (i : Bool) : gIsi "int" (.bool i) = some (.bool true) := by
  show Option.map PyData.bool (kitB "bool" "int") = _
  rw [show kitB "bool" "int" = some true by decide +kernel]; rfl
theorem isi_s (i : Str) : gIsi "int" (.str i) = some (.bool false) := by
  show Option.map PyData.bool (kitB "str" "int") = _
  rw [show kitB "str" "int" = some false by decide +kernel]; rfl
theorem isi_n : gIsi "int" .none = some (.bool false) := by
  show Option.map PyData.bool (kitB "NoneType" "int") = _
  rw [show kitB "NoneType" "int" = some false by decide +kernel]; rfl
theorem isi_l (i : List PyData) : gIsi "int" (.list i) = some (.bool false) := by
  show Option.map PyData.bool (kitB "list" "int") = _
  rw [show kitB "list" "int" = some false by decide +kernel]; rfl
theorem isi_t (i : List PyData) : gIsi "int" (.tuple i) = some (.bool false) := by
  show Option.map PyData.bool (kitB "tuple" "int") = _
  rw [show kitB "tuple" "int" = some false by decide +kernel]; rfl
theorem isbool_i (i : Int) : gIsi "bool" (.int i) = some (.bool false) := by
  show Option.map PyData.bool (kitB "int" "bool") = _
  rw [show kitB "int" "bool" = some false by decide +kernel]; rfl
theorem isbool_b (i : Bool) : gIsi "bool" (.bool i) = some (.bool true) := by
  show Option.map PyData.bool (kitB "bool" "bool") = _
  rw [show kitB "bool" "bool" = some true by decide +kernel]; rfl
theorem isbool_s (i : Str) : gIsi "bool" (.str i) = some (.bool false) := by
  show Option.map PyData.bool (kitB "str" "bool") = _
  rw [show kitB "str" "bool" = some false by decide +kernel]; rfl
theorem isbool_n : gIsi "bool" (.none) = some (.bool false) := by
  show Option.map PyData.bool (kitB "NoneType" "bool") = _
  rw [show kitB "NoneType" "bool" = some false by decide +kernel]; rfl
theorem isbool_l (i : List PyData) : gIsi "bool" (.list i) = some (.bool false) := by
  show Option.map PyData.bool (kitB "list" "bool") = _
  rw [show kitB "list" "bool" = some false by decide +kernel]; rfl
theorem isbool_t (i : List PyData) : gIsi "bool" (.tuple i) = some (.bool false) := by
  show Option.map PyData.bool (kitB "tuple" "bool") = _
  rw [show kitB "tuple" "bool" = some false by decide +kernel]; rfl
theorem isstr_i (i : Int) : gIsi "str" (.int i) = some (.bool false) := by
  show Option.map PyData.bool (kitB "int" "str") = _
  rw [show kitB "int" "str" = some false by decide +kernel]; rfl
theorem isstr_b (i : Bool) : gIsi "str" (.bool i) = some (.bool false) := by
  show Option.map PyData.bool (kitB "bool" "str") = _
  rw [show kitB "bool" "str" = some false by decide +kernel]; rfl
theorem isstr_s (i : Str) : gIsi "str" (.str i) = some (.bool true) := by
  show Option.map PyData.bool (kitB "str" "str") = _
  rw [show kitB "str" "str" = some true by decide +kernel]; rfl
theorem isstr_n : gIsi "str" (.none) = some (.bool false) := by
  show Option.map PyData.bool (kitB "NoneType" "str") = _
  rw [show kitB "NoneType" "str" = some false by decide +kernel]; rfl
theorem isstr_l (i : List PyData) : gIsi "str" (.list i) = some (.bool false) := by
  show Option.map PyData.bool (kitB "list" "str") = _
  rw [show kitB "list" "str" = some false by decide +kernel]; rfl
theorem isstr_t (i : List PyData) : gIsi "str" (.tuple i) = some (.bool false) := by
  show Option.map PyData.bool (kitB "tuple" "str") = _
  rw [show kitB "tuple" "str" = some false by decide +kernel]; rfl
theorem islist_i (i : Int) : gIsi "list" (.int i) = some (.bool false) := by
  show Option.map PyData.bool (kitB "int" "list") = _
  rw [show kitB "int" "list" = some false by decide +kernel]; rfl
theorem islist_b (i : Bool) : gIsi "list" (.bool i) = some (.bool false) := by
  show Option.map PyData.bool (kitB "bool" "list") = _
  rw [show kitB "bool" "list" = some false by decide +kernel]; rfl
theorem islist_s (i : Str) : gIsi "list" (.str i) = some (.bool false) := by
  show Option.map PyData.bool (kitB "str" "list") = _
  rw [show kitB "str" "list" = some false by decide +kernel]; rfl
theorem islist_n : gIsi "list" (.none) = some (.bool false) := by
  show Option.map PyData.bool (kitB "NoneType" "list") = _
  rw [show kitB "NoneType" "list" = some false by decide +kernel]; rfl
theorem islist_l (i : List PyData) : gIsi "list" (.list i) = some (.bool true) := by
  show Option.map PyData.bool (kitB "list" "list") = _
  rw [show kitB "list" "list" = some true by decide +kernel]; rfl
theorem islist_t (i : List PyData) : gIsi "list" (.tuple i) = some (.bool false) := by
  show Option.map PyData.bool (kitB "tuple" "list") = _
  rw [show kitB "tuple" "list" = some false by decide +kernel]; rfl
theorem istuple_i (i : Int) : gIsi "tuple" (.int i) = some (.bool false) := by
  show Option.map PyData.bool (kitB "int" "tuple") = _
  rw [show kitB "int" "tuple" = some false by decide +kernel]; rfl
theorem istuple_b (i : Bool) : gIsi "tuple" (.bool i) = some (.bool false) := by
  show Option.map PyData.bool (kitB "bool" "tuple") = _
  rw [show kitB "bool" "tuple" = some false by decide +kernel]; rfl
theorem istuple_s (i : Str) : gIsi "tuple" (.str i) = some (.bool false) := by
  show Option.map PyData.bool (kitB "str" "tuple") = _
  rw [show kitB "str" "tuple" = some false by decide +kernel]; rfl
theorem istuple_n : gIsi "tuple" (.none) = some (.bool false) := by
  show Option.map PyData.bool (kitB "NoneType" "tuple") = _
  rw [show kitB "NoneType" "tuple" = some false by decide +kernel]; rfl
theorem istuple_l (i : List PyData) : gIsi "tuple" (.list i) = some (.bool false) := by
  show Option.map PyData.bool (kitB "list" "tuple") = _
  rw [show kitB "list" "tuple" = some false by decide +kernel]; rfl
theorem istuple_t (i : List PyData) : gIsi "tuple" (.tuple i) = some (.bool true) := by
  show Option.map PyData.bool (kitB "tuple" "tuple") = _
  rw [show kitB "tuple" "tuple" = some true by decide +kernel]; rfl
theorem gSub_int (a b : Int) : Eg.gSub (.int a) (.int b) = some (.int (a - b)) := rfl
theorem v_coOl {ρ : Rho} (i : Nat) (f : Fn) (xs : List PyData) (os : List OD) : coO (some (some (.ol xs))) i f (some os) ρ = coR i ρ (f (some (.ol xs) :: os.map some)) := rfl
end Eg
local macro_rules | `(tactic| simp?! only [$ls,*]) => `(tactic| simp -implicitDefEqProofs only [Eg.v_bind, Eg.v_go, Eg.v_ret, Eg.v_get, Eg.v_lift, Eg.v_opt, Eg.v_seq, Eg.v_sqn, Eg.v_sqr, Eg.v_sqb, Eg.v_sqc, Eg.v_set, Eg.v_sret, Eg.v_if, Eg.v_mif, Eg.v_next, Eg.v_expr, Eg.v_dat, Eg.v_slot, Eg.v_sd, Eg.v_so, Eg.v_m2, Eg.v_m2k, Eg.v_m1, Eg.v_m1k, Eg.v_mL, Eg.v_mLk, Eg.v_rl0, Eg.v_rl1, Eg.v_nil, Eg.v_cons, Eg.v_fix, Eg.v_fix0, Eg.v_fix1, Eg.v_fzs, Eg.v_fzo, Eg.v_ab, Eg.v_not, Eg.v_and, Eg.v_or, Eg.v_ai, Eg.v_fn, Eg.v_fin, Eg.v_fin2, Eg.v_kp0, Eg.v_kpt, Eg.v_kpf, Eg.v_slo, Eg.v_mslot, Eg.v_name, Eg.v_nms, Eg.v_nmo, Eg.v_take, Eg.v_tks, Eg.v_tko, Eg.v_has, Eg.v_hask, Eg.v_dget, Eg.v_dgk, Eg.v_dgo, Eg.v_put, Eg.v_putk, Eg.v_puto, Eg.v_app, Eg.v_apo, Eg.v_ol, Eg.v_olk, Eg.v_callO, Eg.v_coK, Eg.v_coO, Eg.v_coR, Eg.v_as0, Eg.v_asd, Eg.v_ass, Eg.v_asod, Eg.v_asoc, Eg.v_ason, Eg.v_call, Eg.v_caO, Eg.v_caR, Eg.v_for, Eg.v_lpO, Eg.v_lpn, Eg.v_lpr, Eg.v_tn, Eg.v_sil, Eg.v_sit, Eg.v_par, Eg.v_un, List.map_cons, List.map_nil, List.getElem?_cons_zero, List.getElem?_cons_succ, List.set_cons_zero, List.set_cons_succ, List.replicate_succ, List.replicate_zero, List.cons_append, List.nil_append, Option.bind_eq_bind, Option.bind_some, Option.map_some, if_true, Bool.false_eq_true, if_false, Bool.not_true, Bool.not_false, Eg.v_chain, Eg.v_op2, Eg.v_txt, Eg.v_tt, Eg.v_tl, Eg.v_go0, Eg.v_go1, Eg.isT, Eg.isF, Eg.notT, Eg.notF, Eg.v_truB, Eg.v_truI, Eg.v_truL, Eg.v_truT, Eg.v_truN, Eg.v_andV, Eg.v_orV, Eg.v_notV, Eg.v_neg, Eg.tp0, Eg.tp1, Eg.tp2, Eg.tp3, Eg.tp4, Eg.tp5, Eg.tp6, Eg.tp7, Eg.ls0, Eg.ls1, Eg.ls2, Eg.ls3, Eg.ls4, Eg.ls5, Eg.ls6, Eg.ls7, Eg.tuL, Eg.tuT, decide_true, decide_false, Eg.v_sl, Eg.gLen_list, Eg.gLen_tup, Eg.gGt_int, Eg.gLt_int, Eg.gGe_int, Eg.gLe_int, Eg.gEq_int, Eg.gNe_int, Eg.aAdd_int, Eg.v_app2, Eg.gNe_strR, Eg.gEq_strR, List.isEmpty_nil, List.isEmpty_cons, Bool.true_and, Bool.false_and, Bool.and_true, Bool.and_false, eq_self, Option.getD_some, Eg.isN_n, Eg.isN_t, Eg.isN_l, Eg.isN_s, Eg.isN_i, Eg.isN_b, Eg.notN_n, Eg.notN_t, Eg.notN_l, Eg.notN_s, Eg.notN_i, Eg.notN_b, Eg.ix_t0, Eg.ix_t1, Eg.ix_t2, Eg.ix_t3, Eg.ix_t4, Eg.ix_t5, Eg.ix_t6, Eg.tyIs_int_int, Eg.tyNot_int_int, Eg.tyIs_int_bool, Eg.tyNot_int_bool, Eg.tyIs_int_str, Eg.tyNot_int_str, Eg.tyIs_int_list, Eg.tyNot_int_list, Eg.tyIs_int_tuple, Eg.tyNot_int_tuple, Eg.tyIs_int_NoneType, Eg.tyNot_int_NoneType, Eg.tyIs_bool_int, Eg.tyNot_bool_int, Eg.tyIs_bool_bool, Eg.tyNot_bool_bool, Eg.tyIs_bool_str, Eg.tyNot_bool_str, Eg.tyIs_bool_list, Eg.tyNot_bool_list, Eg.tyIs_bool_tuple, Eg.tyNot_bool_tuple, Eg.tyIs_bool_NoneType, Eg.tyNot_bool_NoneType, Eg.tyIs_str_int, Eg.tyNot_str_int, Eg.tyIs_str_bool, Eg.tyNot_str_bool, Eg.tyIs_str_str, Eg.tyNot_str_str, Eg.tyIs_str_list, Eg.tyNot_str_list, Eg.tyIs_str_tuple, Eg.tyNot_str_tuple, Eg.tyIs_str_NoneType, Eg.tyNot_str_NoneType, Eg.tyIs_list_int, Eg.tyNot_list_int, Eg.tyIs_list_bool, Eg.tyNot_list_bool, Eg.tyIs_list_str, Eg.tyNot_list_str, Eg.tyIs_list_list, Eg.tyNot_list_list, Eg.tyIs_list_tuple, Eg.tyNot_list_tuple, Eg.tyIs_list_NoneType, Eg.tyNot_list_NoneType, Eg.tyIs_tuple_int, Eg.tyNot_tuple_int, Eg.tyIs_tuple_bool, Eg.tyNot_tuple_bool, Eg.tyIs_tuple_str, Eg.tyNot_tuple_str, Eg.tyIs_tuple_list, Eg.tyNot_tuple_list, Eg.tyIs_tuple_tuple, Eg.tyNot_tuple_tuple, Eg.tyIs_tuple_NoneType, Eg.tyNot_tuple_NoneType, Eg.v_ext, Eg.v_putL, Eg.v_pick, Eg.v_pk0, Eg.v_pkl, Eg.v_pkr, List.getD_cons_zero, List.getD_cons_succ, Eg.v_coOl, Eg.gSub_int, Eg.isi_i, Eg.isi_b, Eg.isi_s, Eg.isi_n, Eg.isi_l, Eg.isi_t, Eg.isbool_i, Eg.isbool_b, Eg.isbool_s, Eg.isbool_n, Eg.isbool_l, Eg.isbool_t, Eg.isstr_i, Eg.isstr_b, Eg.isstr_s, Eg.isstr_n, Eg.isstr_l, Eg.isstr_t, Eg.islist_i, Eg.islist_b, Eg.islist_s, Eg.islist_n, Eg.islist_l, Eg.islist_t, Eg.istuple_i, Eg.istuple_b, Eg.istuple_s, Eg.istuple_n, Eg.istuple_l, Eg.istuple_t, $ls,*])
namespace HT
open PySem PySem.Spec PyProof.Rows
section
variable {prog : Program} {w : World} {A : Around} {E : Value → Shared → Prop} {s : Shared}
end
end HT
namespace L2
open PySem PySem.Spec PyProof.Rows
section
variable {X : Cx}
end
end L2
namespace Eg
open PySem L2 PySem.W PySem.SeqAt
section
variable [Tbs] {X : Cx} {C : Ct} {e a b c o tg iter : Expr} {es : List Expr} {pos p p1 p2 p3 apos cpos pos' : Pos} {P : List Nat} {σ σ1 : St} {ρ ρ1 : Rho} {F H F1 H1 : Hp}
def aMulT (x y : PyData) : Option OD := match x, y with
  | .tuple xs, .int k => if xs.length ≠ 0 ∧ 2 ≤ k ∧ k ≤ 1000 ∧ xs.length ≤ 1000 then some (.sh (.tuple (List.replicate k.toNat xs).flatten)) else none
  | x, y => aMulW x y
theorem ao_mulT : OpO X (binaryOp .Mult) aMulT := by
  intro pins s σ F H x y v u dx dy o Q I rx ry sub h1 h2 e q
  unfold aMulT at e
  split at e
  · split at e <;> cases e
    rename_i hz
    cases h2
    have h1' : DV X.KW F x (.tuple _) := h1
    cases h1' with
    | tup g1 k1 =>
      refine op_repT pins s σ H _ _ v u Q I rx ry ⟨_, _, _, rfl, rfl, sub.sqT g1, fun z => ?_, hz.2.1, hz.2.2.1, by rw [k1.len]; exact hz.2.2.2, fun p hp => q _ _ _ (.tup hp (k1.rep _))⟩
      have := k1.len
      rw [z] at this
      exact hz.1 this.symm
  · exact ao_mulW pins s σ F H x y v u dx dy o Q I rx ry sub h1 h2 e q
end
theorem aMulT_int {i j : Int} {a b : Nat} (h1 : i.natAbs < 2 ^ a) (h2 : j.natAbs < 2 ^ b) (ha : 0 < a ∧ a ≤ 400000 := by decide) (hb : 0 < b ∧ b ≤ 400000 := by decide) : aMulT (.int i) (.int j) = some (.sh (.int (i * j))) := gMulW_int h1 h2 ha hb
end Eg
namespace HT
open PySem PySem.Spec PyProof.Rows
section
variable {prog : Program} {w : World} {A : Around} {E : Value → Shared → Prop} {s : Shared}
end
end HT
namespace L2
open PySem PySem.Spec PyProof.Rows
section
variable {X : Cx}
end
end L2
namespace Eg
open PySem L2 PySem.W PySem.SeqAt
section
variable [Tbs] {X : Cx} {C : Ct} {e a b c o tg iter : Expr} {es : List Expr} {pos p p1 p2 p3 apos cpos pos' : Pos} {P : List Nat} {σ σ1 : St} {ρ ρ1 : Rho} {F H F1 H1 : Hp}
end
end Eg
namespace Eg
open PySem L2 PySem.W PySem.SeqAt PySem.Spec PyProof.Rows
abbrev HRow := NestedKey × Addr × Value
def RowR (p : KRow) (q : HRow) : Prop := p.1 = q.1 ∧ p.2.1 = q.2.1 ∧ RelV p.2.2 q.2.2
def kHas (kvs : List (PyData × PyData)) (k : PyData) : Bool := kvs.any fun p => decide (nk p.1 = nk k)
def kRepl (k d : PyData) (kvs : List (PyData × PyData)) : List (PyData × PyData) := kvs.map fun p => if nk p.1 = nk k then (p.1, d) else p
def kPut (kvs : List (PyData × PyData)) (k d : PyData) : List (PyData × PyData) := if kHas kvs k = true then kRepl k d kvs else kvs ++ [(k, d)]
def keyT : PyData → Bool
  | .tuple ds => keyBs ds && decide ((PyData.tuple ds).depth ≤ 8)
  | _ => false
theorem keyT_at {k : PyData} (h : keyT k = true) : keyB k = true ∧ k.depth ≤ 8 ∧ ∃ ds, k = .tuple ds := by
  cases k <;> simp only [keyT, Bool.and_eq_true, decide_eq_true_eq] at h <;> first | exact absurd h Bool.false_ne_true | skip
  exact ⟨h.1, h.2, _, rfl⟩
def lHas (L : List KRow) (n : NestedKey) : Bool := L.any fun x => decide (x.1 = n)
def lPut (L : List KRow) (n : NestedKey) (b : Addr) (v : V) : List KRow := if lHas L n = true then L.map fun x => if x.1 = n then (x.1, x.2.1, v) else x else L ++ [(n, b, v)]
theorem atKey_cons (x : HRow) (xs : List HRow) (n : NestedKey) : atKey (x :: xs) n = if x.1 = n then some x.2 else atKey xs n := by
  unfold atKey
  rw [List.find?_cons]
  by_cases e : x.1 = n <;> simp [e]
theorem atKey_has (n : NestedKey) : ∀ xs : List HRow, (atKey xs n).isSome = xs.any fun x => decide (x.1 = n)
  | [] => rfl
  | x :: xs => by
    rw [atKey_cons, List.any_cons, ← atKey_has n xs]
    by_cases e : x.1 = n <;> simp [e]
section
variable [Tbs] {K : Kw} {H : Hp}
theorem KN.has (n : NestedKey) (k : PyData) (e : n = nk k) : ∀ {L : List KRow} {kvs : List (PyData × PyData)}, KN K H L kvs → lHas L n = kHas kvs k
  | _, _, .nil => rfl
  | _, _, .cons (k := k0) _ _ _ _ t => by
    have := KN.has n k e t
    unfold lHas kHas at this ⊢
    rw [List.any_cons, List.any_cons, this, e]
theorem KN.len : ∀ {L : List KRow} {kvs : List (PyData × PyData)}, KN K H L kvs → L.length = kvs.length
  | _, _, .nil => rfl
  | _, _, .cons _ _ _ _ t => by rw [List.length_cons, List.length_cons, KN.len t]
theorem KN.repl {k d : PyData} {v : V} (h : DV K H v d) : ∀ {L : List KRow} {kvs : List (PyData × PyData)}, KN K H L kvs → KN K H (L.map fun x => if x.1 = nk k then (x.1, x.2.1, v) else x) (kRepl k d kvs)
  | _, _, .nil => .nil
  | _, _, .cons (k := k0) (d := d0) (b := b0) (v := v0) h0 h1 h2 h3 t => by
    unfold kRepl
    rw [List.map_cons, List.map_cons]
    show KN K H ((if nk k0 = nk k then (nk k0, b0, v) else (nk k0, b0, v0)) :: _) ((if nk k0 = nk k then (k0, d) else (k0, d0)) :: _)
    by_cases e : nk k0 = nk k
    · rw [if_pos e, if_pos e]; exact .cons h0 h1 h2 h (KN.repl h t)
    · rw [if_neg e, if_neg e]; exact .cons h0 h1 h2 h3 (KN.repl h t)
theorem KN.snoc {k d : PyData} {b : Addr} {v : V} (kb : keyB k = true) (kd : k.depth ≤ 8) (hk : DV K H (.ref b) k) (h : DV K H v d) : ∀ {L : List KRow} {kvs : List (PyData × PyData)}, KN K H L kvs → KN K H (L ++ [(nk k, b, v)]) (kvs ++ [(k, d)])
  | _, _, .nil => .cons kb kd hk h .nil
  | _, _, .cons h0 h1 h2 h3 t => .cons h0 h1 h2 h3 (KN.snoc kb kd hk h t)
theorem KN.put {k d : PyData} {b : Addr} {v : V} (kb : keyB k = true) (kd : k.depth ≤ 8) (hk : DV K H (.ref b) k) (h : DV K H v d) {L : List KRow} {kvs : List (PyData × PyData)} (t : KN K H L kvs) : KN K H (lPut L (nk k) b v) (kPut kvs k d) := by
  unfold lPut kPut
  rw [t.has (nk k) k rfl]
  split
  · exact t.repl h
  · exact t.snoc kb kd hk h
theorem rows_has (n : NestedKey) : ∀ {L : List KRow} {xs : List HRow}, Paired RowR L xs → lHas L n = (atKey xs n).isSome
  | _, _, .nil => rfl
  | _, _, .cons r q => by
    have := rows_has n q
    rw [atKey_has] at this ⊢
    unfold lHas at this ⊢
    rw [List.any_cons, List.any_cons, this, r.1]
theorem rows_map {n : NestedKey} {v : V} {u : Value} (h : RelV v u) : ∀ {L : List KRow} {xs : List HRow}, Paired RowR L xs → Paired RowR (L.map fun x => if x.1 = n then (x.1, x.2.1, v) else x) (xs.map (putAt n u))
  | _, _, .nil => .nil
  | _, _, .cons (a := x) (b := y) r q => by
    rw [List.map_cons, List.map_cons]
    refine .cons ?_ (rows_map h q)
    unfold putAt
    rw [← r.1]
    by_cases e : x.1 = n
    · rw [if_pos e, if_pos e]; exact ⟨rfl, r.2.1, h⟩
    · rw [if_neg e, if_neg e]; exact r
theorem rows_put {n : NestedKey} {b : Addr} {v : V} {u : Value} (h : RelV v u) {L : List KRow} {xs : List HRow} (r : Paired RowR L xs) : Paired RowR (lPut L n b v) (storedH xs n b u) := by
  unfold lPut storedH
  rw [rows_has n r]
  split
  · exact rows_map h r
  · exact Paired.snoc r ⟨rfl, rfl, h⟩
theorem lPut_len (L : List KRow) (n : NestedKey) (b : Addr) (v : V) : (lPut L n b v).length ≤ L.length + 1 := by
  unfold lPut
  split
  · rw [List.length_map]; omega
  · rw [List.length_append]; exact Nat.le_refl _
end
section
variable [Tbs] {X : Cx} {pins : List (Addr × Obj)} {σ : L2.St} {F H : Hp} {s : Shared} {a b : Addr} {L : List KRow} {kvs : List (PyData × PyData)} {k d : PyData} {v : V} {u : Value}
theorem key_at (I : Inv X pins σ H s) (h : DV X.KW H (.ref b) k) (kb : keyB k = true) (kd : k.depth ≤ 8) : (nestedKind X.prog X.w).is s.heap (nk k) b := by
  obtain ⟨as, r⟩ := h.reads I (u := .ref b) rfl
  exact nk_is r kb kd
theorem keys_at (I : Inv X pins σ H s) : ∀ {L : List KRow} {kvs : List (PyData × PyData)} {xs : List HRow}, KN X.KW H L kvs → Paired RowR L xs → ∀ x ∈ xs, (nestedKind X.prog X.w).is s.heap x.1 x.2.1
  | _, _, _, .nil, .nil, _, hx => nomatch hx
  | _, _, _, .cons h0 h1 h2 h3 t, .cons (b := y) r q, x, hx => by
    rcases List.mem_cons.mp hx with e | hx
    · rw [e, ← r.1, ← r.2.1]
      exact key_at I h2 h0 h1
    · exact keys_at I t q x hx
theorem kd_at (I : Inv X pins σ H s) (h : Rd H a (KO X.w a L)) (sub : Same F H) (t : KN X.KW F L kvs) : (a == sysModules) = false ∧ L.length ≤ sizeLine ∧ ∃ xs, Paired RowR L xs ∧ s.heap.DictOfH (nestedKind X.prog X.w) a xs := by
  have ok : KObj X.w a L s.heap := (h.ok I.hok).1
  obtain ⟨far, size, xs, r, nd, o, es, ep, ho, hx, hd, he⟩ := ok
  exact ⟨far, size, xs, r, o, es, ep, ho, hx, hd, he, keys_at I (KN.mono sub t) r, nd⟩
theorem kd_new {P : Program} {H : Hp} {h : Heap} {w : World} {xs : List HRow} (far : (a == sysModules) = false) (size : L.length ≤ sizeLine) (r : Paired RowR L xs) (m : h.DictOfH (nestedKind P w) a xs) : ObjOk P w H h a (KO w a L) := by
  obtain ⟨o, es, ep, ho, hx, hd, he, _, nd⟩ := m
  refine ⟨⟨far, size, xs, r, nd, o, es, ep, ho, hx, hd, he⟩, ⟨o, ho⟩, fun h1 h2 p q => ?_⟩
  obtain ⟨far, size, xs, r, nd, o, es, ep, ho, hx, hd, he⟩ := p
  exact ⟨far, size, xs, r, nd, o, es, ep, q o ho, hx, hd, he⟩
variable {A : Around} {E : Value → Shared → Prop}
theorem room_in1 (hu : A.units + 9 < cLine) : (nestedKind X.prog X.w).room A.in1 := by show A.units + 1 + 8 < cLine; omega
theorem kd_write {h' : Heap} {t' : Nat} {xs : List HRow} (I : Inv X pins σ H s) (h : H a = some (KO X.w a L)) (far : (a == sysModules) = false) (size : L.length < sizeLine) (r : Paired RowR L xs) (rv : RelV v u)
    (m : h'.DictOfH (nestedKind X.prog X.w) a (storedH xs (nk k) b u)) (sb : Heap.SameBut a s.heap h') : Inv X pins σ (upd H a (KO X.w a (lPut L (nk k) b v))) { s with heap := h', toks := t' } := by
  have he : ∃ q, h'.get? a = some q := let ⟨q, _, _, hq, _⟩ := m; ⟨q, hq⟩
  exact d_write I (by rw [h]; exact True.intro) sb he (kd_new far (by have := lPut_len L (nk k) b v; omega) (rows_put rv r) m)
theorem kd_set {Q : Unit → Shared → Prop} (hu : A.units + 9 < cLine) (I : Inv X pins σ H s) (h : H a = some (KO X.w a L)) (sub : Same F H) (t : KN X.KW F L kvs) (hk : DV X.KW F (.ref b) k) (ht : keyT k = true) (hz : kvs.length < sizeLine) (rv : RelV v u)
    (q : ∀ s', Inv X pins σ (upd H a (KO X.w a (lPut L (nk k) b v))) s' → Q () s') : wpAny (model X.prog X.w) A (setItem (.ref a) (.ref b) u) Q E s := by
  obtain ⟨far, size, xs, r, m⟩ := kd_at I (.inl h) sub t
  obtain ⟨kb, kd, _⟩ := keyT_at ht
  exact wpAny_setItem_heap (hsz := by rw [← Paired.length r]; exact size) (room_in1 hu) (key_at I (DV.mono sub hk) kb kd) m fun h' m' sb => q _ (kd_write (k := k) I h far (by rw [t.len]; exact hz) r rv m' sb)
end
end Eg
namespace Eg
open PySem L2 PySem.W PySem.SeqAt PySem.Spec PyProof.Rows
def dctK : Option (Option OD) → Option (List (PyData × PyData))
  | some (some (.kd kvs)) => some kvs
  | some (some (.sn kvs)) => some kvs
  | _ => none
theorem dctK_at [Tbs] {K : Kw} {F H : Hp} {σ : L2.St} {ρ : Rho} {i : Nat} {kvs : List (PyData × PyData)} (s : SR K F H σ ρ) (e : dctK ρ[i]? = some kvs) : ∃ a L, σ[i]? = some (some (.ref a)) ∧ Rd H a (KO K.w a L) ∧ KN K F L kvs := by
  cases q : ρ[i]? with
  | none => rw [q] at e; cases e
  | some o =>
    rw [q] at e
    cases o with
    | none => cases e
    | some o =>
      obtain ⟨v, hv, r⟩ := s.sl i o q
      cases o with
      | kd kvs' => cases e; obtain ⟨a, L, rfl, _, h2, h3⟩ := r; exact ⟨a, L, hv, .inl h2, h3⟩
      | sn kvs' => cases e; obtain ⟨a, L, rfl, ⟨o, h2⟩, h3⟩ := r; exact ⟨a, L, hv, .inr ⟨o, s.sub _ _ h2⟩, h3⟩
      | _ => cases e
theorem dv_tup {K : Kw} {F : Hp} {v : V} {k : PyData} (h : DV K F v k) (t : keyT k = true) : ∃ b, v = .ref b := by
  obtain ⟨_, _, ds, rfl⟩ := keyT_at t
  cases h with
  | tup _ _ => exact ⟨_, rfl⟩
section
variable [Tbs] {X : Cx} {C : Ct} {e a b c o : Expr} {es : List Expr} {pos apos cpos pos' : Pos} {P : List Nat}
def sKPut (i : Nat) (mv mk : M PyData) : M Out := mv.bind fun d => mHas i (mk.bind fun kd => fun ρ => match ρ[i]? with
  | some (some (.kd kvs)) => if keyT kd = true ∧ kvs.length < sizeLine then .ok .nx (ρ.set i (some (.kd (kPut kvs kd d)))) else .bad
  | _ => .bad)
theorem s_kput {i : Nat} {value : Expr} {mv mk : M PyData} (hu : X.A.units + 9 < cLine) (ho : PE X o (tVar i)) (hi : PE X e (tD C mk)) (hv : PE X value (tD C mv)) (hs : swapsWith value (some (.Subscript o e pos')) pos.line X.env = pure false := by rfl) (hK : X.KW = C.K := by rfl) :
    PS X (.Assign [.Subscript o e pos'] value pos) (tS C P (sKPut i mv mk)) := by
  refine ⟨fun pins s σ H D I ⟨F, ρ, sr, p⟩ => ?_⟩
  refine wpAny_Assign_Subscript (thn (hv.run pins s σ H (fun v H1 => ∃ F1 ρ1 d, SR C.K F1 H1 σ ρ1 ∧ DV C.K F1 v d ∧ PostS C P σ ρ1 F1 H1 D (mHas i (mk.bind fun kd => fun ρ => match ρ[i]? with
    | some (some (.kd kvs)) => if keyT kd = true ∧ kvs.length < sizeLine then .ok .nx (ρ.set i (some (.kd (kPut kvs kd d)))) else .bad
    | _ => .bad) ρ1)) I ⟨F, ρ, sr, PostS.part (P := P) p fun d ρ1 F1 H1 v q1 g1 s1 r1 => ⟨F1, ρ1, d, s1, r1, q1⟩⟩) fun r s1 ⟨v, H1, I1, rv, F1, ρ1, d, s1', dv, q1⟩ => ?_) hs
  unfold mHas at q1
  split at q1
  · rename_i oo eo
    obtain ⟨x, hx, _⟩ := s1'.sl i _ eo
    refine thn (ho.run pins s1 σ H1 (fun y H2 => y = x ∧ H2 = H1) I1 ⟨x, hx, rfl, rfl⟩) fun u s2 ⟨y, H2, I2, ry, e1, e2⟩ => ?_
    subst e1 e2
    refine thn (hi.run pins s2 σ H2 (fun z H3 => ∃ F3 ρ3 kvs k, SR C.K F3 H3 σ ρ3 ∧ Same F1 F3 ∧ DV C.K F3 z k ∧ ρ3[i]? = some (some (.kd kvs)) ∧ keyT k = true ∧ kvs.length < sizeLine ∧ PostS C P σ ρ3 F3 H3 D (.ok .nx (ρ3.set i (some (.kd (kPut kvs k d)))))) I2 ⟨F1, ρ1, s1', PostS.part (P := P) q1 fun kd ρ3 F3 H3 z q3 g3 s3 r3 => ?_⟩) fun iv s3 ⟨z, H3, I3, rz, F3, ρ3, kvs, k, s3', sub, dz, eo3, ht, hz, q3⟩ => ?_
    · split at q3
      · rename_i kvs eo3
        split at q3
        · rename_i hz
          exact ⟨F3, ρ3, kvs, kd, s3, g3.ext, r3, eo3, hz.1, hz.2, q3⟩
        · exact q3.elim
      · exact q3.elim
    · obtain ⟨x', hx', a, L, rfl, fa, hH, hn⟩ := s3'.sl i _ eo3
      rw [hx] at hx'
      cases hx'
      obtain ⟨b, rfl⟩ := dv_tup dz ht
      obtain rfl : u = .ref a := ry
      obtain rfl : iv = .ref b := rz
      obtain ⟨kb, kd, _⟩ := keyT_at ht
      have st := SR.write (i := i) (o' := .kd (kPut kvs k d)) (u := KO C.K.w a (lPut L (nk k) b v)) s3' eo3 rfl hx rfl ⟨a, lPut L (nk k) b v, rfl, fa, upd_same, hn.put kb kd dz (DV.mono sub dv)⟩
      have fin := q3 F3 _ σ st.2 st.1 Pres.refl
      have hw : X.w = C.K.w := congrArg Kw.w hK
      rw [← hK] at hn dz s3'
      refine kd_set hu I3 (hw ▸ hH) s3'.sub hn dz ht hz rv fun s4 I4 => ⟨σ, _, I4, ?_⟩
      rw [hw]
      exact fin
  · exact q1.elim
theorem o_knew (hK : X.KW = C.K := by rfl) : PE X (.Dict [] [] pos) (tO C (M.ret (.kd []))) := by
  refine ⟨fun pins s σ H Q I ⟨F, ρ, sr, p⟩ => ?_⟩
  have hn : H s.heap.objs.size = none := I.hok.fresh (Nat.le_refl _)
  have fp := sr.sub.free hn
  have hw : X.w = C.K.w := congrArg Kw.w hK
  refine wpAny_Dict_empty ⟨.ref s.heap.objs.size, upd H s.heap.objs.size (KO X.w s.heap.objs.size []), I.laid (t' := s.toks) (fun _ _ q => Heap.get?_push_of_some _ q) (Nat.le_refl _)
    (kd_new (P := X.prog) (xs := []) (beq_eq_false_iff_ne.mpr (Ne.symm (Nat.ne_of_lt I.big))) (Nat.zero_le _) .nil (Heap.DictOfH.new s.heap)), rfl, ?_⟩
  rw [hw]
  exact p F _ _ (Grow.fresh hn) (sr.fresh hn) ⟨⟨_, [], rfl, fp, upd_same, .nil⟩, fun _ a e => by
    cases e
    refine ⟨fun z => ?_, .inl hn⟩
    obtain ⟨_, u, e2⟩ := own.at sr z
    rw [hn] at e2; cases e2⟩
end
end Eg
namespace Eg
open PySem L2 PySem.W PySem.SeqAt PySem.Spec PyProof.Rows
structure KMid [Tbs] (C : Ct) (σ0 : L2.St) (ρ1 : Rho) (vs : List Nat) (F1 H1 : Hp) (D : Addr) (σ : L2.St) (ρ : Rho) (F H : Hp) (acc : List (PyData × PyData)) : Prop where
  sr : SR C.K F H σ ρ
  gr : Grow (own σ0 (wipeR ρ1 vs)) (own σ ρ) F1 H1 F H
  no : ¬ own σ ρ D
  ft : F D = none
  rows : ∃ L, H D = some (KO C.K.w D L) ∧ KN C.K F L acc
section
variable [Tbs] {C : Ct} {σ0 σ : L2.St} {ρ1 ρ ρ' : Rho} {vs : List Nat} {F1 H1 F H F' H' : Hp} {D : Addr} {acc : List (PyData × PyData)}
theorem KMid.on (m : KMid C σ0 ρ1 vs F1 H1 D σ ρ F H acc) (g : Grow (own σ ρ) (own σ ρ') F H F' H') (s : SR C.K F' H' σ ρ') : KMid C σ0 ρ1 vs F1 H1 D σ ρ' F' H' acc := by
  obtain ⟨L, h, t⟩ := m.rows
  refine ⟨s, m.gr.trans g, fun z => ?_, ?_, L, g.keep D _ h (KO_noT _ _ _) m.no, t.mono g.ext⟩
  · rcases g.ows D z with y | y
    · exact m.no y
    · rw [h] at y; cases y
  · cases q : F' D with
    | none => rfl
    | some u =>
      rcases g.new D (by rw [q]; simp) with z | z | z
      · exact absurd m.ft z
      · rw [h] at z; cases z
      · exact absurd z m.no
theorem KMid.put (m : KMid C σ0 ρ1 vs F1 H1 D σ ρ F H acc) (hD : H1 D = none) {k d : PyData} {b : Addr} {v : V} (kt : keyT k = true) (dk : DV C.K F (.ref b) k) (dv : DV C.K F v d) {L : List KRow} (hL : H D = some (KO C.K.w D L)) (t : KN C.K F L acc) :
    KMid C σ0 ρ1 vs F1 H1 D σ ρ F (upd H D (KO C.K.w D (lPut L (nk k) b v))) (kPut acc k d) := by
  obtain ⟨kb, kd, _⟩ := keyT_at kt
  refine ⟨m.sr.on (Same.refl _) (fun c u q => by rw [upd_ne (ne_of_none q m.ft)]; exact m.sr.sub c u q) (m.sr.tb.wr hL (KO_noT _ _ _)) fun a ha => ?_, ⟨m.gr.ext, fun c o q t n => ?_, fun c ps q n => ?_, m.gr.new, m.gr.ows⟩, m.no, m.ft, _, upd_same, t.put kb kd dk dv⟩
  · exact ⟨(own.at m.sr ha).1, fun u q _ => by rw [upd_ne (fun z => m.no (by rw [← z]; exact ha))]; exact q⟩
  · rw [upd_ne (ne_of_none q hD)]
    exact m.gr.keep c o q t n
  · rw [upd_ne (ne_of_none q hD)]
    exact m.gr.kt c ps q n
end
section
variable [Tbs] {X : Cx} {C : Ct} {kx vx tg iter : Expr} {ifs : List Expr} {pos : Pos}
end
end Eg
namespace Eg
open PySem L2 PySem.W PySem.SeqAt PySem.Spec PyProof.Rows
def Kept (s s1 : Shared) : Prop := (∀ b o, s.heap.get? b = some o → s1.heap.get? b = some o) ∧ s1.gens = s.gens ∧ s1.os = s.os ∧ s.heap.objs.size ≤ s1.heap.objs.size
section
variable {P : Program} {w : World} {A : Around} {s : Shared}
theorem sorted_by {E : Value → Shared → Prop} {r : Addr} {G : List Value → Shared → Prop} {Q : Value → Shared → Prop}
    (gather : ∀ (E : Value → Shared → Prop) (R : List Value → Shared → Prop), (∀ vs s1, G vs s1 → R vs s1) → wpAny (model P w) A.in1 (collect (.ref r)) R E s)
    (sq : ∀ vs s1, G vs s1 → vs.length ≤ sizeLine ∧ ∃ κ : PyProof.Rows.KeyKind, SortsAt P w A.in1.in1 { s1 with heap := sortingHeap (s1.heap.push (seqObj "list" vs.toArray 0)) s1.heap.objs.size vs } κ vs ∧
      Q (.ref s1.heap.objs.size) { s1 with heap := sortedHeap (s1.heap.push (seqObj "list" vs.toArray 0)) s1.heap.objs.size vs (sortVals κ false vs vs).toArray }) :
    wpAny (model P w) A (call (.builtin "sorted") [.ref r]) Q E s := by
  refine call_function_entry_kw kind_sorted plain_sorted entry_sorted (args_sorted1 _) ?_
  unfold Builtin.«sorted»
  refine wpAny_bind (m := checkCount "sorted" 1 1 _) (wpAny_pure (wpAny_bind (gather _ _ fun vs s1 g => ?_)))
  obtain ⟨len, κ, S, q⟩ := sq vs s1 g
  refine wpAny_bind (wpAny_newList ?_ len)
  have here : (s1.heap.push (seqObj "list" vs.toArray 0)).get? s1.heap.objs.size = some (seqObj "list" vs.toArray 0) := Heap.get?_push_size _ rfl
  refine wpAny_bind (wpAny_holding (wpAny_call_entry_kw slot_list_sort ⟨_, here, rfl⟩ entry_list_sort ?go (args_list_sort _)))
  case go =>
    show wpAny (model P w) A.in1.in1 (Builtin.«list.sort» ⟨[.ref s1.heap.objs.size], []⟩) _ _ _
    exact list_sort_vals (s := { s1 with heap := s1.heap.push (seqObj "list" vs.toArray 0) }) here S len ⟨_, rfl, wpAny_pure ⟨_, rfl, q⟩⟩
end
section
variable [Tbs] {X : Cx} {pins : List (Addr × Obj)} {σ : L2.St} {F H : Hp} {s : Shared}
abbrev IsD' (K : Kw) (F : Hp) (v : Value) (d : PyData) : Prop := ∃ x, RelV x v ∧ DV K F x d
theorem laid_list {s1 : Shared} {a : Addr} {ws : List V} {out : Array Value} {c : Nat} {Q : VK} (I : Inv X pins σ H s) (k : Kept s s1) (ha : s.heap.objs.size ≤ a) (hl : ws.length ≤ sizeLine) (r : Vals ws out.toList) (h : s1.heap.get? a = some (seqObj "list" out c))
    (q : Q (.ref a) (upd H a (.lst ws))) : EP X pins σ Q (.ref a) s1 := by
  have J : Inv X pins σ (upd H a (.lst ws)) { s with heap := s1.heap, gens := s1.gens, drawn := s1.drawn, toks := s1.toks } :=
    I.call (ch := []) (Un.laid k.1 ha (I.hok.fresh ha)) (I.hok.laid k.1 ha ⟨hl, out.toList, c, r, h⟩) (by rw [k.2.1]; exact I.bare) (fun _ z => nomatch z)
  have e : s1 = { s with heap := s1.heap, gens := s1.gens, drawn := s1.drawn, toks := s1.toks } := by
    obtain ⟨_, _, k3, _⟩ := k
    cases s1
    cases s
    cases k3
    rfl
  rw [e]
  exact ⟨.ref a, _, J, rfl, q⟩
theorem sorted_dat {r : Addr} {ds : List PyData} {Q : VK} (I : Inv X pins σ H s) (sub : Same F H) (hu : X.A.units + 64 < cLine)
    (gather : ∀ (E : Value → Shared → Prop) (R : List Value → Shared → Prop), (∀ vs s1, (Kept s s1 ∧ ∃ es, EachIs (IsD' X.KW F) vs es ∧ sortOk es = true ∧ sortD es = ds) → R vs s1) → wpAny (model X.prog X.w) X.A.in1 (collect (.ref r)) R E s)
    (q : ∀ a ws, H a = none → DVs X.KW F ws ds → Q (.ref a) (upd H a (.lst ws))) : wpAny (model X.prog X.w) X.A (call (.builtin "sorted") [.ref r]) (EP X pins σ Q) X.xe s := by
  refine sorted_by gather fun vs s1 ⟨k, es, e, ok, eo⟩ => ?_
  obtain ⟨z1, z2, z3, z4⟩ := sortOk_at ok
  have rd : EachIs (fun v d => ∃ as, Reads s.heap v d as) vs es := e.mono fun v d ⟨x, r, h⟩ => (DV.mono sub h).reads I r
  have rd' : EachIs (fun v d => ∃ as, Reads (sortingHeap (s1.heap.push (seqObj "list" vs.toArray 0)) s1.heap.objs.size vs) v d as) vs es :=
    rd.mono fun v d ⟨as, r⟩ => ⟨as, PyProof.Rows.Reads.keeps (fun b o z => sortingHeap_old (Nat.ne_of_lt (Heap.lt_size (k.1 b o z))) (Heap.get?_push_of_some _ (k.1 b o z))) r⟩
  have vl : vs.length ≤ sizeLine := by rw [e.length]; exact z4
  refine ⟨vl, dataKind _ es, SortsAt.data (s := { s1 with heap := sortingHeap (s1.heap.push (seqObj "list" vs.toArray 0)) s1.heap.objs.size vs }) rd' z1 z2 fun d hd => ?_, ?_⟩
  · have := z3 d hd
    show X.A.units + 1 + 1 + d.depth < cLine
    omega
  · have here : (s1.heap.push (seqObj "list" vs.toArray 0)).get? s1.heap.objs.size = some (seqObj "list" vs.toArray 0) := Heap.get?_push_size _ rfl
    generalize eh : s1.heap.push (seqObj "list" vs.toArray 0) = h1 at here rd' ⊢
    have eo2 := sortVals_data (enc := id) (bs := es) false e (by simpa using rd') (by simpa using z1)
    rw [List.map_id] at eo2
    obtain ⟨ws, dv, rv⟩ := each_dvs eo2
    have dv : DVs X.KW F ws (sortD es) := dv
    rw [eo] at dv
    obtain ⟨c, at2⟩ := sortedHeap_at (vs := vs) (out := (sortVals (dataKind (sortingHeap h1 s1.heap.objs.size vs) es) false vs vs).toArray) here
    have low := k.2.2.2
    refine laid_list I (s1 := { s1 with heap := sortedHeap h1 s1.heap.objs.size vs (sortVals (dataKind (sortingHeap h1 s1.heap.objs.size vs) es) false vs vs).toArray }) ⟨fun b o z => ?_, k.2.1, k.2.2.1, ?_⟩ low ?_ (by simpa using rv) at2 (q _ ws (I.hok.fresh low) dv)
    · have lt := Heap.lt_size (k.1 b o z)
      show (sortedHeap h1 s1.heap.objs.size vs _).get? b = some o
      rw [sortedHeap_old (Nat.ne_of_lt lt) (by rw [← eh, size_push']; exact Nat.lt_succ_of_lt lt), ← eh]
      exact Heap.get?_push_of_some _ (k.1 b o z)
    · have lt := Heap.lt_size at2
      exact Nat.le_trans low (Nat.le_of_lt lt)
    · rw [dv.len, ← eo]
      unfold sortD
      rw [List.length_mergeSort]
      exact z4
end
section
variable {P : Program} {w : World} {A : Around} {E : Value → Shared → Prop} {s : Shared} {T : String} {r d : Addr} {n : Nat} {Pv : Nat → Value → Prop} {OK : Heap → Prop}
theorem coll_src {Q : List Value → Shared → Prop} (S : KdlSrc P w T r d n Pv OK) (free : A.handled = none) (ok : OK s.heap) (hz : n ≤ sizeLine)
    (q : ∀ s1 (out : Array Value), Kept s s1 → ItemsOf Pv out n → Q out.toList s1) : wpAny (model P w) A (collect (.ref r)) Q E s := by
  have low := S.there _ ok
  unfold collect
  refine wpAny_bind (wpAny_runValue (codeAny_builtin PySem.F.entry_proto_collect ?_))
  rw [Around.under_plainId PySem.F.plain_proto_collect _]
  show wpAny _ _ (do again (.builtin "list.__iadd__" ⟨[← newList [], .ref r], []⟩)) _ _ s
  refine wpAny_bind (wpAny_newList (wpAny_pure ⟨Code.quiet_builtin _ (by decide +kernel), codeAny_builtin PySem.F.entry_list_iadd ?_⟩))
  rw [Around.under_plainId PySem.F.plain_list_iadd _]
  show wpAny _ A.in1 (Builtin.List.listExtendWith (.ref s.heap.objs.size) (.ref r) (.ref s.heap.objs.size)) _ _ _
  have at0 : (s.heap.push (seqObj "list" #[] 0)).get? s.heap.objs.size = some { cls := .type "list", data := .seq #[] 0 } := Heap.get?_push_size _ rfl
  have fin : ∀ res u, (∃ out c, res = Except.ok (Flow.ret (.ref s.heap.objs.size)) ∧ Kept s u ∧ u.heap.get? s.heap.objs.size = some { cls := .type "list", dict := none, data := .seq out c, slots := #[] } ∧ ItemsOf Pv out n) → (match (res : Result) with
      | .ok (.ret v) => wpAny (model P w) A (match v with
        | .ref a => do
          let o ← load a
          match o.data with
          | .seq xs _ => pure xs.toList
          | _ => unsupported "internal:collect"
        | _ => unsupported "internal:collect") Q E u
      | .ok _ => False
      | .error e => E e u) := fun res u ⟨out, c, e, k, here, items⟩ => by
    subst e
    exact wpAny_bind (wpAny_load here (wpAny_pure (q u out k items)))
  refine wpAny_mono (kdl_extend (s := { s with heap := s.heap.push (seqObj "list" #[] 0) }) (R := fun res u => ∃ out c, res = Except.ok (Flow.ret (.ref s.heap.objs.size)) ∧ Kept s u ∧ u.heap.get? s.heap.objs.size = some { cls := .type "list", dict := none, data := .seq out c, slots := #[] } ∧ ItemsOf Pv out n)
    S free (S.keep _ _ ok fun b _ o e => Heap.get?_push_of_some _ e) s.heap.objs.size (Nat.ne_of_gt low.1) (Nat.ne_of_gt low.2) (.ref s.heap.objs.size) 0 at0
    (fun h' tk out c keep here items => ⟨out, c, rfl, ⟨fun b o e => keep b o (Nat.ne_of_lt (Heap.lt_size e)) (Heap.get?_push_of_some _ e), rfl, rfl, Nat.le_of_lt (Heap.lt_size here)⟩, here, items⟩) hz) (fun f u h => ?_) (fun e u h => ?_)
  · cases f with
    | done f => exact fin _ _ h
    | again c' => exact ⟨h.1, codeAny_mono h.2 fun res u z => fin res u z⟩
  · obtain ⟨_, _, z, _⟩ := h
    cases z
end
theorem kn_keys {K : Kw} {F : Hp} : ∀ {L : List KRow} {kvs : List (PyData × PyData)}, KN K F L kvs → EachIs (IsD' K F) (L.map fun x => Value.ref x.2.1) (kvs.map (·.1))
  | _, _, .nil => .nil
  | _, _, .cons _ _ h _ t => .cons ⟨.ref _, rfl, h⟩ (kn_keys t)
theorem rows_keys : ∀ {L : List KRow} {xs : List HRow}, Paired RowR L xs → (xs.map fun x => Value.ref x.2.1) = L.map fun x => Value.ref x.2.1
  | _, _, .nil => rfl
  | _, _, .cons r q => by rw [List.map_cons, List.map_cons, rows_keys q, r.2.1]
section
variable [Tbs] {X : Cx} {C : Ct} {e : Expr} {pos p : Pos}
def CallK (X : Cx) (f : Value) (g : List (PyData × PyData) → Option OD) : Prop :=
  ∀ (pins : List (Addr × Obj)) (s : Shared) (σ : L2.St) (F H : Hp) (a : Addr) (L : List KRow) (kvs : List (PyData × PyData)) (o : OD) (Q : VK), Inv X pins σ H s → Same F H → Rd H a (KO X.w a L) → KN X.KW F L kvs → g kvs = some o →
    (∀ F' H' w, Alloc X.KW F H F' H' w o → Q w H') → wpAny (model X.prog X.w) X.A (call f [.ref a]) (EP X pins σ Q) X.xe s
def kSorted (kvs : List (PyData × PyData)) : Option OD := if sortOk (kvs.map (·.1)) = true then some (.ol (sortD (kvs.map (·.1)))) else none
theorem ck_sorted (hc : X.calm = true) (hu : X.A.units + 64 < cLine) : CallK X (.builtin "sorted") kSorted := by
  intro pins s σ F H a L kvs o Q I sub h t e q
  unfold kSorted at e
  split at e <;> cases e
  rename_i ok
  obtain ⟨far, size, xs, r, m⟩ := kd_at I h sub t
  obtain ⟨ob, es, ep, ho, hx, hd, he, _, _⟩ := m
  have n1 : es.size = xs.length := size_of_entries he
  have n2 : L.length = xs.length := Paired.length r
  refine sorted_dat I sub hu (fun E R k => coll_src (kdl_raw far hx hd) (I.ok.hd hc) ho (by omega) fun s1 out kept items => k _ _ ⟨kept, kvs.map (·.1), ?_, ok, rfl⟩) fun b ws hb dv => q F _ (.ref b) (.lst hb dv)
  have eo : out.toList = xs.map fun x => Value.ref x.2.1 := items_out (Pv := fun i v => ∃ en : DictEntry, es[i]? = some en ∧ v = en.key) (by rw [List.length_map, ← n1]; exact items) fun j v ⟨en, hen, hv⟩ => by
    have z := entry_at he j
    rw [hen] at z
    rw [List.getElem?_map]
    cases hj : xs[j]? with
    | none => rw [hj] at z; cases z
    | some y =>
      rw [hj] at z
      cases z
      rw [hv]
      rfl
  rw [eo, rows_keys r]
  exact kn_keys t
def mKCall (i : Nat) (g : List (PyData × PyData) → Option OD) : M OD := fun ρ => match (dctK ρ[i]?).bind g with
  | some o => .ok o ρ
  | none => .bad
theorem o_kcall {i : Nat} {id : String} {x : Str} {g : List (PyData × PyData) → Option OD} (hc : CallK X (.builtin id) g) (hg : Gl X x) (hm : X.mg x = none) (hv : bootBuiltins x = some (.builtin id)) (ha : PE X e (tVar i)) (hn : x ≠ "__name__" := by decide) (hdb : (x == ("__debug__" : Str)) = false := by decide)
    (he : starEach [e] X.env = (false, eval e X.env) :: starEach [] X.env := by rfl) (hpl : (backTo pos (starEach [] X.env)).any (·.1) = false := by rfl) (hK : X.KW = C.K := by rfl) : PE X (.Call (.Name x p) [e] [] pos) (tO C (mKCall i g)) := by
  refine ⟨fun pins s σ H Q I ⟨F, ρ, sr, pp⟩ => ?_⟩
  unfold mKCall at pp
  cases ek : dctK ρ[i]? with
  | none => rw [ek] at pp; exact pp.elim
  | some kvs =>
    cases eg : g kvs with
    | none => rw [ek, Option.bind_some, eg] at pp; exact pp.elim
    | some o =>
      rw [ek, Option.bind_some, eg] at pp
      obtain ⟨a, L, hv1, hH, hn1⟩ := dctK_at sr ek
      refine wpAny_Call_Name_kw (ld_blt I hg hm hv ?_ hn hdb)
      refine PyProof.Rows.callWith_builtin1 (thn ((pa_cons ha pa_nil he).run pos pins s σ H (fun xs H2 => xs = [V.ref a] ∧ H2 = H) I ⟨_, hv1, rfl, rfl⟩) fun us s1 ⟨vs, H1, I1, r1, e1, e2⟩ => ?_) he hpl
      subst e1 e2
      rw [Vals.ref1 r1]
      rw [← hK] at hH hn1
      exact hc pins s1 σ F H1 a L kvs o Q I1 sr.sub hH hn1 eg fun F' H' w h => Alloc.post sr (hK ▸ h) pp
end
end Eg
namespace Sn
open PySem PyProof.Rows
section
variable {P : Program} {w : World}
def Says (P : Program) (w : World) (what : Nat → Value → Sem Bool) (b : Bool) (n : Nat) (s : Shared) (v : Value) : Prop :=
  ∀ (A : Around) (E : Value → Shared → Prop) (Q : Bool → Shared → Prop), Q b s → wpAny (model P w) A (what n v) Q E s
theorem says_pure {what : Nat → Value → Sem Bool} {b : Bool} {n : Nat} {s : Shared} {v : Value} (h : what n v = pure b) : Says P w what b n s v := fun A E Q q => by
  rw [h]; exact wpAny_pure q
theorem flat_class (n : Nat) (v : Value) (h : ∀ a, v ≠ .ref a) : ofAClassStatement n v = pure false := by
  cases v <;> first | rfl | (cases n <;> rfl) | exact absurd rfl (h _)
theorem tuple_class {n : Nat} {s : Shared} {a : Addr} {o : Obj} {vs : Array Value} {m : Nat} (ho : s.heap.get? a = some o) (hc : o.cls = .type "tuple") (hd : o.data = .seq vs m)
    (hq : ∀ v ∈ vs.toList, Says P w ofAClassStatement false n s v) : Says P w ofAClassStatement false (n + 1) s (.ref a) := fun A E Q q => by
  have hT : s.TypeIs (.ref a) "tuple" := ⟨o, ho, hc⟩
  unfold ofAClassStatement
  refine wpAny_bind (wpAny_typeOf hT ?_)
  dsimp only
  simp only [show (("tuple" : String) == "tuple") = true from by decide, if_true, Bool.not_true, Bool.false_eq_true, if_false]
  try refine wpAny_bind (wpAny_pure ?_)
  try simp only [Bool.not_true, Bool.false_eq_true, if_false]
  show wpAny _ _ (seqItems? (.ref a) >>= _) _ _ s
  refine wpAny_bind (wpAny_seqItems ho hd ?_)
  dsimp only
  refine wpAny_bind ?_
  show wpAny _ _ (forIn vs _ _) _ _ s
  rw [← Array.forIn_toList]
  refine wpAny_forIn_list _ (fun left r t => r.1 = none ∧ t = s ∧ ∀ v ∈ left, Says P w ofAClassStatement false n s v) _ ?_ ?_ _ _ ⟨rfl, rfl, hq⟩
  · rintro v left r t ⟨hr, rfl, hall⟩
    refine wpAny_bind (hall v List.mem_cons_self _ _ _ ?_)
    simp only [Bool.false_eq_true, if_false]
    exact wpAny_pure ⟨rfl, rfl, fun u hu => hall u (List.mem_cons_of_mem _ hu)⟩
  · rintro ⟨r1, r2⟩ t ⟨hr, rfl, _⟩
    simp only at hr
    subst hr
    exact wpAny_pure q
mutual
theorem key_class : ∀ (k : NestedKey) (v : Value) (n : Nat) (s : Shared), NestedIs s.heap k v → k.depth ≤ n → Says P w ofAClassStatement false n s v
  | .none, _, n, s, x, _ => by cases x; exact says_pure (flat_class n _ (fun a z => by cases z))
  | .num i, _, n, s, x, _ => by cases x <;> exact says_pure (flat_class n _ (fun a z => by cases z))
  | .text y, _, n, s, x, _ => by cases x; exact says_pure (flat_class n _ (fun a z => by cases z))
  | .tup ks, _, n, s, x, hn => by
    cases x with
    | tup hg hc hd hk =>
      simp only [NestedKey.depth] at hn
      cases n with
      | zero => omega
      | succ n => exact tuple_class hg hc hd (keys_class ks _ n s hk (by omega))
theorem keys_class : ∀ (ks : List NestedKey) (vs : List Value) (n : Nat) (s : Shared), NestedAll s.heap ks vs → NestedKey.depthAll ks ≤ n → ∀ v ∈ vs, Says P w ofAClassStatement false n s v
  | [], _, n, s, x, _, v, hv => by cases x; cases hv
  | k :: ks, _, n, s, x, hn, v, hv => by
    cases x with
    | cons x1 x2 =>
      simp only [NestedKey.depthAll] at hn
      rcases List.mem_cons.mp hv with e | hv
      · rw [e]; exact key_class k _ n s x1 (by omega)
      · exact keys_class ks _ n s x2 (by omega) v hv
end
end
end Sn
namespace Sn
open PySem PyProof.Rows L2
section
variable {P : Program} {w : World} {A : Around} {E : Value → Shared → Prop} {s : Shared}
theorem unseen {k : NestedKey} {b : Addr} {Q : Bool → Shared → Prop} (hk : (nestedKind P w).is s.heap k b) {ys : List Value} (hy : ∀ y ∈ ys, ∃ j c, y = Value.ref c ∧ (nestedKind P w).is s.heap j c) (h : Q false s) :
    wpAny (model P w) A (searchCouldBeSeen (.ref b) ys) Q E s := by
  have q1 : ∀ {j : NestedKey} {c : Addr}, (nestedKind P w).is s.heap j c → Says P w eqIsQuiet true 8 s (.ref c) := fun hj A E Q q => quiet_key _ _ 8 s hj.1 hj.2 A E Q q
  have q2 : ∀ {j : NestedKey} {c : Addr}, (nestedKind P w).is s.heap j c → Says P w ofAClassStatement false 8 s (.ref c) := fun hj => key_class _ _ 8 s hj.1 hj.2
  unfold searchCouldBeSeen
  refine wpAny_bind ?_
  refine wpAny_forIn_list _ (fun left r t => r.1 = none ∧ t = s ∧ ∀ y ∈ left, ∃ j c, y = Value.ref c ∧ (nestedKind P w).is s.heap j c) _ ?_ ?_ _ _ ⟨rfl, rfl, hy⟩
  · rintro v left r t ⟨hr, rfl, hall⟩
    obtain ⟨j, c, rfl, hc⟩ := hall v List.mem_cons_self
    have hl : ∀ y ∈ left, ∃ j c, y = Value.ref c ∧ (nestedKind P w).is t.heap j c := fun u hu => hall u (List.mem_cons_of_mem _ hu)
    dsimp only
    by_cases hv : (b == c || (carriedByValue (.ref b) && carriedByValue (.ref c))) = true
    · exact wp_if_pos hv (wpAny_pure ⟨rfl, rfl, hl⟩)
    · refine wp_if_neg hv ?_
      refine wpAny_bind (q1 hk _ _ _ ?_)
      simp only [Bool.not_true, Bool.false_eq_true, if_false]
      refine wpAny_bind (q1 hc _ _ _ ?_)
      simp only [Bool.not_true, Bool.false_eq_true, if_false]
      refine wpAny_bind (q2 hk _ _ _ ?_)
      simp only [Bool.false_eq_true, if_false]
      refine wpAny_bind (q2 hc _ _ _ ?_)
      simp only [Bool.false_eq_true, if_false]
      exact wpAny_pure ⟨rfl, rfl, hl⟩
  · rintro ⟨r1, r2⟩ t ⟨hr, rfl, _⟩
    simp only at hr
    subst hr
    exact wpAny_pure h
end
section
variable {P : Program} {w : World}
mutual
def byVal : NestedKey → Bool
  | .none => true
  | .num _ => true
  | .text _ => false
  | .tup ks => byVals ks
def byVals : List NestedKey → Bool
  | [] => true
  | k :: ks => byVal k && byVals ks
end
def HashBy (P : Program) (w : World) (n : Nat) (s : Shared) (b : Bool) (v : Value) : Prop := Says P w hashByValue b n s v
inductive HashAll (P : Program) (w : World) (n : Nat) (s : Shared) : Bool → List Value → Prop
  | nil : HashAll P w n s true []
  | cons {b c : Bool} {v : Value} {vs : List Value} : HashBy P w n s b v → HashAll P w n s c vs → HashAll P w n s (b && c) (v :: vs)
theorem tuple_hashBy {n : Nat} {s : Shared} {a : Addr} {o : Obj} {vs : Array Value} {m : Nat} {b : Bool} (ho : s.heap.get? a = some o) (hc : o.cls = .type "tuple") (hd : o.data = .seq vs m)
    (hq : HashAll P w n s b vs.toList) : HashBy P w (n + 1) s b (.ref a) := fun A E Q q => by
  have hT : s.TypeIs (.ref a) "tuple" := ⟨o, ho, hc⟩
  unfold hashByValue
  refine wpAny_bind (wpAny_specialOf hT F.slot_tuple_hash.lookup ?_)
  show wpAny _ _ (seqItems? (.ref a) >>= _) _ _ s
  refine wpAny_bind (wpAny_seqItems ho hd ?_)
  refine wpAny_bind ?_
  show wpAny _ _ (forIn vs _ _) _ _ s
  rw [← Array.forIn_toList]
  refine wpAny_forIn_list _ (fun left r t => r.1 = none ∧ t = s ∧ HashAll P w n s b left) _ ?_ ?_ _ _ ⟨rfl, rfl, hq⟩
  · rintro v left r t ⟨hr, rfl, h⟩
    cases h with
    | @cons b1 c1 _ _ h1 h2 =>
      refine wpAny_bind (h1 _ _ _ ?_)
      cases b1 with
      | true =>
        simp only [Bool.not_true, Bool.false_eq_true, if_false]
        exact wpAny_pure ⟨rfl, rfl, by simpa using h2⟩
      | false =>
        simp only [Bool.not_false, if_true]
        exact wpAny_pure (wpAny_pure q)
  · rintro ⟨r1, r2⟩ t ⟨hr, rfl, h⟩
    simp only at hr
    subst hr
    cases h
    exact wpAny_pure q
mutual
theorem key_hashBy : ∀ (k : NestedKey) (v : Value) (n : Nat) (s : Shared), NestedIs s.heap k v → k.depth ≤ n → HashBy P w n s (byVal k) v
  | .none, _, n, s, x, _ => by cases x; exact says_pure (by cases n <;> rfl)
  | .num i, _, n, s, x, _ => by cases x <;> exact says_pure (by cases n <;> rfl)
  | .text y, _, n, s, x, _ => by cases x; exact says_pure (by cases n <;> rfl)
  | .tup ks, _, n, s, x, hn => by
    cases x with
    | tup hg hc hd hk =>
      simp only [NestedKey.depth] at hn
      cases n with
      | zero => omega
      | succ n => exact tuple_hashBy hg hc hd (keys_hashBy ks _ n s hk (by omega))
theorem keys_hashBy : ∀ (ks : List NestedKey) (vs : List Value) (n : Nat) (s : Shared), NestedAll s.heap ks vs → NestedKey.depthAll ks ≤ n → HashAll P w n s (byVals ks) vs
  | [], _, n, s, x, _ => by cases x; exact .nil
  | k :: ks, _, n, s, x, hn => by
    cases x with
    | cons x1 x2 =>
      simp only [NestedKey.depthAll] at hn
      exact .cons (key_hashBy k _ n s x1 (by omega)) (keys_hashBy ks _ n s x2 (by omega))
end
end
end Sn
namespace Sn
open PySem PyProof.Rows L2
def spot (t : SetTable) (H : Int) (c : Nat) : SetTable.Probe := nth t.mask (runAt t.mask (SetTable.bits H % (t.mask + 1)) (SetTable.bits H)) c
theorem spot_on (t : SetTable) (H : Int) (c q : Nat) : nth t.mask (spot t H c) q = spot t H (c + q) := (nth_add t.mask c _ q).symm
theorem spot_dummy (t : SetTable) (H : Int) : ∀ c, (spot t H c).dummy = none := by
  have go : ∀ (n : Nat) (p : SetTable.Probe), p.dummy = none → (nth t.mask p n).dummy = none := by
    intro n
    induction n with
    | zero => exact fun p h => h
    | succ n ih => exact fun p h => ih _ (by unfold adv; split <;> exact h)
  exact fun c => go c _ rfl
theorem hash_here {t : SetTable} {hs : List Int} (T : TabOk t hs) {i j : Nat} (h : t.place.toList[i]? = some j) : ∃ x, hs[i]? = some x := by
  have h1 : i < t.place.toList.length := (List.getElem?_eq_some_iff.mp h).1
  rw [Array.length_toList, T.sz] at h1
  exact ⟨_, List.getElem?_eq_getElem h1⟩
theorem probe_at {t : SetTable} {hs : List Int} (T : TabOk t hs) {f : Nat → Int} (hf : ∀ i x, hs[i]? = some x → f i = x) {H : Int} {K c : Nat} (hK : way t.mask H K ∉ t.place.toList)
    (hb : ∀ k, k < K → way t.mask H k ∈ t.place.toList) (hm : K < 10 * SetTable.turns t.mask) (hc : c ≤ K) :
    (∃ (q i : Nat), c + q < K ∧ t.place.toList[i]? = some (way t.mask H (c + q)) ∧ hs[i]? = some H ∧ (∀ (q' i' : Nat), q' < q → t.place.toList[i']? = some (way t.mask H (c + q')) → hs[i']? ≠ some H) ∧
      t.probe f H (spot t H c) = some (.candidate (way t.mask H (c + q)) i (spot t H (c + (q + 1))))) ∨
    ((∀ (q i : Nat), c + q < K → t.place.toList[i]? = some (way t.mask H (c + q)) → hs[i]? ≠ some H) ∧ t.probe f H (spot t H c) = some (.empty (way t.mask H K) none)) := by
  have e : ∀ q, (nth t.mask (spot t H c) q).j = way t.mask H (c + q) := fun q => by rw [spot_on]; rfl
  have sp := go_spec t T.ris T.dm f H (10 * SetTable.turns t.mask) (K - c) (spot t H c) (spot_dummy t H c) (by omega) (fun q hq => by rw [e]; exact hb _ (by omega)) (by rw [e, show c + (K - c) = K by omega]; exact hK)
  have ne : ∀ i j, t.place.toList[i]? = some j → f i ≠ H → hs[i]? ≠ some H := fun i j _ h z => h (hf i H z)
  rcases sp with ⟨q, i, hq, hi, hh, hno, hp⟩ | ⟨hno, hp⟩
  · refine .inl ⟨q, i, by omega, by rw [← e]; exact hi, ?_, fun q' i' h1 h2 => ne i' _ h2 (hno q' i' h1 (by rw [e]; exact h2)), ?_⟩
    · obtain ⟨x, hx⟩ := hash_here T hi
      rw [hx, ← hf i x hx, hh]
    · rw [← e, ← spot_on]; exact hp
  · refine .inr ⟨fun q i h1 h2 => ne i _ h2 (hno q i (by omega) (by rw [e]; exact h2)), ?_⟩
    have : way t.mask H K = (nth t.mask (spot t H c) (K - c)).j := by rw [e, show c + (K - c) = K by omega]
    rw [this]
    exact hp
end Sn
namespace Sn
open PySem PyProof.Rows L2
section
variable {P : Program} {w : World} {A : Around} {E : Value → Shared → Prop} {s : Shared}
structure NSet (P : Program) (w : World) (h : Heap) (a : Addr) (L : List (Addr × NestedKey)) (es : Array (Int × Value)) (ep : Nat) (t : SetTable) : Prop where
  here : ∃ o, h.get? a = some o ∧ o.ExactSet ∧ o.data = .set es ep t
  rows : es.toList = L.map fun p => (p.2.hash w, Value.ref p.1)
  tab : TabOk t (L.map fun p => p.2.hash w)
  nodup : (L.map (·.2)).Nodup
  keys : ∀ p ∈ L, (nestedKind P w).is h p.2 p.1
  room : L.length * 5 < t.mask * 3
  few : L.length < 64
  led : w.params.followText "set-order" = true ∨ t.led = true
variable {a : Addr} {L : List (Addr × NestedKey)} {es : Array (Int × Value)} {ep : Nat} {t : SetTable}
theorem NSet.size (R : NSet P w s.heap a L es ep t) : es.size = L.length := by
  rw [← Array.length_toList, R.rows, List.length_map]
theorem NSet.row (R : NSet P w s.heap a L es ep t) {i : Nat} {p : Addr × NestedKey} (h : L[i]? = some p) : es[i]? = some (p.2.hash w, Value.ref p.1) := by
  rw [← Array.getElem?_toList, R.rows, List.getElem?_map, h]
  rfl
theorem NSet.fits (R : NSet P w s.heap a L es ep t) : t.fits es.size = true := by
  have h1 : t.place.size = es.size := by rw [R.size, R.tab.sz, List.length_map]
  have h2 := R.size
  have h3 := R.room
  unfold SetTable.fits SetTable.fill
  rw [R.tab.dm]
  simp only [Bool.and_eq_true, beq_iff_eq, decide_eq_true_eq]
  exact ⟨h1, by show t.place.size + 0 ≤ t.mask; omega⟩
theorem NSet.whole (R : NSet P w s.heap a L es ep t) : ¬ t.gaveWay = true := by
  unfold SetTable.gaveWay
  rw [mask_odd R.tab.mok]
  decide
theorem NSet.there (R : NSet P w s.heap a L es ep t) {i j : Nat} (h : t.place.toList[i]? = some j) : ∃ p, L[i]? = some p ∧ p ∈ L := by
  obtain ⟨x, hx⟩ := hash_here R.tab h
  rw [List.getElem?_map] at hx
  cases e : L[i]? with
  | none => rw [e] at hx; cases hx
  | some p => exact ⟨p, rfl, List.mem_of_getElem? e⟩
theorem look (R : NSet P w s.heap a L es ep t) {x : Addr} {k : NestedKey} (hx : (nestedKind P w).is s.heap k x) (hu : (nestedKind P w).room A) {K : Nat} (hm : K < 10 * SetTable.turns t.mask)
    (hK : way t.mask (k.hash w) K ∉ t.place.toList) (hb : ∀ c, c < K → way t.mask (k.hash w) c ∈ t.place.toList) {Q : SetFound → Shared → Prop}
    (yes : k ∈ L.map (·.2) → Q (.there none) s) (no : k ∉ L.map (·.2) → Q (.free (way t.mask (k.hash w) K) false) s) :
    ∀ (f c : Nat) (stand : Option SetTable.Probe), stand.getD (t.probeStart (k.hash w)) = spot t (k.hash w) c → c ≤ K → K - c < f →
      (∀ (i : Nat) p, L[i]? = some p → p.2 = k → ∃ c', c ≤ c' ∧ c' < K ∧ t.place.toList[i]? = some (way t.mask (k.hash w) c')) →
      wpAny (model P w) A (setSearchFrom a (.ref x) (k.hash w) true f stand) Q E s
  | 0, c, stand, _, _, hf, _ => absurd hf (Nat.not_lt_zero _)
  | f + 1, c, stand, hst, hc, hf, ahead => by
    obtain ⟨o, ho, hex, hd⟩ := R.here
    have hash : ∀ (i : Nat) (y : Int), (L.map fun p => p.2.hash w)[i]? = some y → (fun i : Nat => (es[i]?.map (·.1)).getD 0) i = y := fun i y h => by
      rw [List.getElem?_map] at h
      cases e : L[i]? with
      | none => rw [e] at h; cases h
      | some p => rw [e] at h; cases h; show (es[i]?.map (·.1)).getD 0 = _; rw [R.row e]; rfl
    have hashOf : ∀ {i : Nat} {p : Addr × NestedKey}, L[i]? = some p → p.2 = k → (L.map fun p => p.2.hash w)[i]? = some (k.hash w) := fun h e => by rw [List.getElem?_map, h, ← e]; rfl
    rw [setSearchFrom_succ]
    refine wpAny_bind (wpAny_setState_of ho hd R.fits ?_)
    dsimp only
    refine wp_if_neg R.whole ?_
    try refine wpAny_bind (wpAny_pure ?_)
    rw [hst]
    rcases probe_at R.tab hash (H := k.hash w) hK hb hm hc with ⟨q, i, hq, hi, hh, none1, hp⟩ | ⟨none1, hp⟩
    · rw [hp]
      dsimp only
      obtain ⟨p, hpi, hpL⟩ := R.there hi
      have go : wpAny (model P w) A (searchRest a (.ref x) (k.hash w) true f es t (way t.mask (k.hash w) (c + q)) i (spot t (k.hash w) (c + (q + 1)))) Q E s := by
        unfold searchRest
        rw [R.row hpi]
        dsimp only
        refine wpAny_bind (wpAny_holding ((nestedKind P w).eqBool hu (R.keys p hpL) hx ?_))
        refine wpAny_bind (wpAny_setState_of ho hd R.fits ?_)
        dsimp only
        by_cases e : p.2 = k
        · exact wp_if_pos (by simp [e]) (wpAny_pure (yes (List.mem_map.mpr ⟨p, hpL, e⟩)))
        · refine wp_if_neg (by simp [e]) ?_
          try refine wpAny_bind (wpAny_pure ?_)
          rw [sameMem]
          dsimp only
          have sl : t.slot (way t.mask (k.hash w) (c + q)) = .live i := slot_live R.tab.ris hi
          simp only [if_true, sl, R.row hpi]
          refine wpAny_bind (wpAny_isSame_ref_self (wpAny_bind (wpAny_pure ?_)))
          simp only [if_true]
          refine wp_if_neg (by simp [e]) ?_
          refine look R hx hu hm hK hb yes no f (c + (q + 1)) _ rfl (by omega) (by omega) fun i1 p1 h1 e1 => ?_
          obtain ⟨c', z1, z2, z3⟩ := ahead i1 p1 h1 e1
          refine ⟨c', ?_, z2, z3⟩
          by_cases lt : c' < c + q
          · exact absurd (hashOf h1 e1) (none1 (c' - c) i1 (by omega) (by rw [show c + (c' - c) = c' by omega]; exact z3))
          · by_cases eq : c' = c + q
            · exfalso
              rw [eq] at z3
              have := slot_live R.tab.ris z3
              rw [sl] at this
              injection this with this
              rw [← this, hpi] at h1
              exact e (by rw [Option.some.inj h1]; exact e1)
            · omega
      by_cases hl : t.led = true
      · refine wp_if_neg (by simp [hl]) ?_
        try refine wpAny_bind (wpAny_pure ?_)
        exact go
      · refine wp_if_pos (by simp [hl]) ?_
        refine wpAny_bind (unseen hx (fun y hy => ?_) ?_)
        · obtain ⟨e, he, rfl⟩ := List.mem_map.mp hy
          have he1 : e ∈ es := by simpa using (by simpa using he : e ∈ es ∧ e.1 = k.hash w).1
          have he2 : e ∈ es.toList := by simpa using he1
          rw [R.rows] at he2
          obtain ⟨p2, hp2, rfl⟩ := List.mem_map.mp he2
          exact ⟨p2.2, p2.1, rfl, R.keys p2 hp2⟩
        · refine wp_if_neg (by decide) ?_
          try refine wpAny_bind (wpAny_pure ?_)
          exact go
    · rw [hp]
      dsimp only
      refine wpAny_pure (no fun hk => ?_)
      obtain ⟨p, hpL, e⟩ := List.mem_map.mp hk
      obtain ⟨i, hi, hpe⟩ := List.getElem_of_mem hpL
      have hpi : L[i]? = some p := by rw [List.getElem?_eq_getElem hi, hpe]
      obtain ⟨c', z1, z2, z3⟩ := ahead i p hpi e
      exact none1 (c' - c) i (by omega) (by rw [show c + (c' - c) = c' by omega]; exact z3) (hashOf hpi e)
end
end Sn
namespace Sn
open PySem PyProof.Rows L2
section
variable {P : Program} {w : World} {A : Around} {E : Value → Shared → Prop} {s : Shared} {a : Addr} {L : List (Addr × NestedKey)} {es : Array (Int × Value)} {ep : Nat} {t : SetTable}
theorem look_all (R : NSet P w s.heap a L es ep t) {x : Addr} {k : NestedKey} (hx : (nestedKind P w).is s.heap k x) (hu : (nestedKind P w).room A) {Q : SetFound → Shared → Prop}
    (yes : k ∈ L.map (·.2) → Q (.there none) s)
    (no : ∀ K, k ∉ L.map (·.2) → way t.mask (k.hash w) K ∉ t.place.toList → (∀ c, c < K → way t.mask (k.hash w) c ∈ t.place.toList) → Q (.free (way t.mask (k.hash w) K) false) s) :
    wpAny (model P w) A (setSearch a (.ref x) (k.hash w) true) Q E s := by
  have hr := R.room
  obtain ⟨K, hm, hK, hb⟩ := R.tab.first (by rw [List.length_map]; omega) (k.hash w)
  have big : K < 100000 := by
    have : 10 * SetTable.turns t.mask < 100000 := by
      unfold SetTable.turns
      rcases R.tab.mok with e | e | e <;> omega
    omega
  unfold setSearch
  refine look R hx hu hm hK hb yes (fun h => no K h hK hb) 100000 0 none rfl (Nat.zero_le _) (by omega) fun i p hp hk => ?_
  have hi : (L.map fun p => p.2.hash w)[i]? = some (k.hash w) := by rw [List.getElem?_map, hp, ← hk]; rfl
  have hil : i < t.place.toList.length := by
    have h1 : i < L.length := (List.getElem?_eq_some_iff.mp hp).1
    rw [Array.length_toList, R.tab.sz, List.length_map]
    exact h1
  have hj := List.getElem?_eq_getElem hil
  obtain ⟨c, hc, e⟩ := R.tab.before hK hi hj
  exact ⟨c, Nat.zero_le _, hc, by rw [hj, e]⟩
theorem key_same {h h' : Heap} {k : NestedKey} {b : Addr} {o : Obj} (hb : (nestedKind P w).is h k b) (ho : h.get? a = some o) (hd : o.data = .set es ep t) (sb : Heap.SameBut a h h') : (nestedKind P w).is h' k b :=
  ⟨NestedIs.at (fun c oc vs n hc he => (sb.2 c fun e => by
    subst e
    rw [ho] at hc
    cases hc
    rw [hd] at he
    cases he).trans hc) k _ hb.1, hb.2⟩
end
end Sn
namespace Sn
open PySem PyProof.Rows L2
theorem range_pick {α : Type} : ∀ L : List α, (List.range L.length).filterMap (fun i => L[i]?) = L
  | [] => rfl
  | x :: L => by
    rw [List.length_cons, List.range_succ_eq_map, List.filterMap_cons, List.filterMap_map]
    show x :: (List.range L.length).filterMap (fun i => L[i]?) = _
    rw [range_pick L]
theorem pick_perm {α : Type} {L : List α} {order : List Nat} (h : order.Perm (List.range L.length)) : (order.filterMap fun i => L[i]?).Perm L := by
  have := h.filterMap (fun i => L[i]?)
  rw [range_pick] at this
  exact this
theorem pick_map {α β : Type} {L : List α} (f : α → β) : ∀ order : List Nat, (order.filterMap fun i => (L.map f)[i]?) = (order.filterMap fun i => L[i]?).map f
  | [] => rfl
  | i :: order => by
    rw [List.filterMap_cons, List.filterMap_cons, List.getElem?_map, pick_map f order]
    cases L[i]? <;> rfl
theorem pick_getD {α β : Type} {L : List α} (f : α → β) (d : β) : ∀ order : List Nat, (∀ i ∈ order, i < L.length) → (order.filterMap fun i => L[i]?).map f = order.map fun i => (L.map f).getD i d
  | [], _ => rfl
  | i :: order, h => by
    have hi := h i List.mem_cons_self
    rw [List.filterMap_cons, List.getElem?_eq_getElem hi, List.map_cons, List.map_cons, pick_getD f d order fun j hj => h j (List.mem_cons_of_mem _ hj)]
    congr 1
    simp [List.getD, List.getElem?_map, List.getElem?_eq_getElem hi]
section
variable {P : Program} {w : World} {A : Around} {E : Value → Shared → Prop} {s : Shared} {a : Addr} {L : List (Addr × NestedKey)} {es : Array (Int × Value)} {ep : Nat} {t : SetTable}
theorem lay_anew {o : Obj} (ho : s.heap.get? a = some o) (hex : o.ExactSet) (hd : o.data = .set es ep t) (rows : es.toList = L.map fun p => (p.2.hash w, Value.ref p.1)) (T : TabOk t (L.map fun p => p.2.hash w)) (hfl : L.length ≤ t.mask)
    (nd : (L.map (·.2)).Nodup) (keys : ∀ p ∈ L, (nestedKind P w).is s.heap p.2 p.1) (few : L.length < 64) (led : w.params.followText "set-order" = true ∨ t.led = true) {wanted M : Nat}
    (hw : SetTable.sizeAbove wanted - 1 = M) (hM : MaskOk M) (hw2 : SetTable.sizeAbove wanted ≤ 128) (hn : L.length * 5 < M * 3) {Q : Unit → Shared → Prop}
    (hQ : ∀ h' L' es' ep' t', Heap.SameBut a s.heap h' → NSet P w h' a L' es' ep' t' → L'.Perm L → Q () { s with heap := h' }) : wpAny (model P w) A (setRelay a wanted) Q E s := by
  have hsl : es.size = L.length := by rw [← Array.length_toList, rows, List.length_map]
  have hpl : t.place.size = es.size := by rw [hsl, T.sz, List.length_map]
  have hfits : t.fits es.size = true := by
    unfold SetTable.fits SetTable.fill
    rw [T.dm]
    simp only [Bool.and_eq_true, beq_iff_eq, decide_eq_true_eq]
    exact ⟨hpl, by show t.place.size + 0 ≤ t.mask; omega⟩
  obtain ⟨t', order, e, hp, T', em, el, _, _⟩ := relaid_ok t (hs := es.map (·.1)) (wanted := wanted) hw hM (by rw [Array.size_map, hsl]; omega)
  rw [Array.size_map, hsl] at hp
  have r1 : (order.filterMap (es[·]?)).toList = (order.toList.filterMap fun i => L[i]?).map fun p => (p.2.hash w, Value.ref p.1) := by
    rw [Array.toList_filterMap, ← pick_map]
    congr 1
    funext i
    rw [← rows, Array.getElem?_toList]
  have r2 : (order.toList.filterMap fun i => L[i]?).Perm L := pick_perm hp
  have r3 : ((order.toList.filterMap fun i => L[i]?).map fun p => p.2.hash w) = order.toList.map fun i => (es.map (·.1)).getD i 0 := by
    rw [pick_getD (fun p : Addr × NestedKey => p.2.hash w) 0 order.toList fun i hi => List.mem_range.mp (hp.mem_iff.mp hi)]
    refine List.map_congr_left fun i _ => ?_
    rw [Array.getD_eq_getD_getElem?, ← Array.getElem?_toList, Array.toList_map, rows, List.map_map]
    simp only [List.getD, List.getElem?_map]
    rfl
  rw [← r3] at T'
  generalize (order.toList.filterMap fun i => L[i]?) = L2 at r1 r2 r3 T'
  have hs2 : (order.filterMap (es[·]?)).size = es.size := by rw [← Array.length_toList, r1, List.length_map, r2.length_eq, hsl]
  rw [setRelay_eq]
  refine wpAny_bind (wpAny_setState_of ho hd hfits ?_)
  dsimp only
  refine wp_if_neg (by rw [sizeLine_eq]; omega) ?_
  try refine wpAny_bind (wpAny_pure ?_)
  rw [e]
  dsimp only
  refine wpAny_bind ?_
  refine wp_if_neg (by rw [hs2]; simp) ?_
  try refine wpAny_bind (wpAny_pure ?_)
  refine wpAny_pure ?_
  dsimp only
  refine wpAny_storeSet_of ho hd ?_ (by rw [hs2, hsl, sizeLine_eq]; omega)
  have sb : Heap.SameBut a s.heap (s.heap.update a (Obj.putSet (order.filterMap (es[·]?)) t')) := Heap.SameBut.update ..
  refine hQ _ L2 (order.filterMap (es[·]?)) (ep + 1) t' sb ⟨⟨_, store_at ho hd, ⟨hex.1, hex.2.1, hex.2.2⟩, rfl⟩, r1, T', ?_, fun p hpm => key_same (keys p (r2.mem_iff.mp hpm)) ho hd sb, ?_, by rw [r2.length_eq]; exact few, by rw [el]; exact led⟩ r2
  · exact (r2.map (·.2)).nodup_iff.mpr nd
  · rw [r2.length_eq, em]; exact hn
end
end Sn
namespace Sn
open PySem PyProof.Rows L2
section
variable {P : Program} {w : World} {A : Around} {E : Value → Shared → Prop} {s : Shared} {a : Addr} {L : List (Addr × NestedKey)} {es : Array (Int × Value)} {ep : Nat} {t : SetTable}
theorem TabOk.plainly {t : SetTable} {hs : List Int} (T : TabOk t hs) (b : Bool) : TabOk { t with plain := b } hs := ⟨T.ris, T.dm, T.sz, T.mok, T.bd, T.reach⟩
theorem put_key (R : NSet P w s.heap a L es ep t) {x : Addr} {k : NestedKey} (hx : (nestedKind P w).is s.heap k x) (hu : (nestedKind P w).room A) (few : L.length + 1 < 64) {Q : Bool → Shared → Prop}
    (hQ : ∀ b h' L' es' ep' t', Heap.SameBut a s.heap h' → NSet P w h' a L' es' ep' t' → (k ∈ L.map (·.2) → L' = L) → (k ∉ L.map (·.2) → L'.Perm ((x, k) :: L)) → Q b { s with heap := h' }) :
    wpAny (model P w) A (setAddHashed a (.ref x) (k.hash w)) Q E s := by
  obtain ⟨o, ho, hex, hd⟩ := R.here
  have hsl := R.size
  have hroom := R.room
  unfold setAddHashed
  refine wpAny_holding ?_
  rw [show (100000 : Nat) = 99999 + 1 from rfl, setAddHashedIn_succ]
  refine wpAny_bind (wpAny_setState_of ho hd R.fits ?_)
  dsimp only
  refine wp_if_neg (by simp [byScan, Value.scannable]) ?_
  try refine wpAny_bind (wpAny_pure ?_)
  refine wpAny_bind (look_all R hx hu (fun hm => ?_) fun K hm hK hb => ?_)
  · dsimp only
    exact wpAny_pure (hQ false s.heap L es ep t (Heap.SameBut.refl a s.heap) R (fun _ => rfl) fun z => absurd hm z)
  · dsimp only
    refine wpAny_bind (wpAny_setState_of ho hd R.fits ?_)
    dsimp only
    obtain ⟨q1, q2, q3, q4, q5, q6, q7, q8, q9⟩ := R.tab.put hK hb
    generalize hpt : t.put (way t.mask (k.hash w) K) = pt at q1 q3 q4 q5 q6 q7 q8 q9 ⊢
    obtain ⟨t1, at1⟩ := pt
    dsimp only at q1 q3 q4 q5 q6 q7 q8 q9 ⊢
    subst q1
    have pm := put_perm L (SetTable.below t.place (way t.mask (k.hash w) K)) (x, k)
    have rows1 : (SetTable.insertAt es (SetTable.below t.place (way t.mask (k.hash w) K)) (k.hash w, Value.ref x)).toList = (L.take (SetTable.below t.place (way t.mask (k.hash w) K)) ++ (x, k) :: L.drop (SetTable.below t.place (way t.mask (k.hash w) K))).map fun p => (p.2.hash w, Value.ref p.1) := by
      rw [SetTable.toList_insertAt, R.rows, List.map_append, List.map_cons, List.map_take, List.map_drop]
    rw [← List.map_take, ← List.map_drop, ← List.map_cons (f := fun p : Addr × NestedKey => p.2.hash w) (a := (x, k)), ← List.map_append] at q3
    generalize SetTable.insertAt es (SetTable.below t.place (way t.mask (k.hash w) K)) (k.hash w, Value.ref x) = es1 at rows1 ⊢
    generalize L.take (SetTable.below t.place (way t.mask (k.hash w) K)) ++ (x, k) :: L.drop (SetTable.below t.place (way t.mask (k.hash w) K)) = L1 at pm rows1 q3
    have len1 : L1.length = L.length + 1 := pm.length_eq
    have nd1 : (L1.map (·.2)).Nodup := (pm.map (·.2)).nodup_iff.mpr (by rw [List.map_cons]; exact List.nodup_cons.mpr ⟨hm, R.nodup⟩)
    have size1 : es1.size = L.length + 1 := by rw [← Array.length_toList, rows1, List.length_map, len1]
    have rest : ∀ t2 : SetTable, TabOk t2 (L1.map fun p => p.2.hash w) → t2.mask = t.mask → t2.led = t.led → (t2.tooFull = true ↔ t1.tooFull = true) →
        wpAny (model P w) A (do
          storeSet a es1 t2
          if (!false && t2.tooFull) = true then do
            setRelay a (SetTable.grown (es.size + 1))
            pure true
          else pure true) Q E s := by
      intro t2 T2 m2 e2 tf
      refine wpAny_bind (wpAny_storeSet_of ho hd ?_ (by rw [size1, sizeLine_eq]; omega))
      have sb : Heap.SameBut a s.heap (s.heap.update a (Obj.putSet es1 t2)) := Heap.SameBut.update ..
      have ho1 := store_at (es' := es1) (t' := t2) ho hd
      generalize s.heap.update a (Obj.putSet es1 t2) = h1 at sb ho1 ⊢
      have keys1 : ∀ p ∈ L1, (nestedKind P w).is h1 p.2 p.1 := fun p hp => by
        rcases List.mem_cons.mp (pm.mem_iff.mp hp) with e | hp
        · rw [e]; exact key_same hx ho hd sb
        · exact key_same (R.keys p hp) ho hd sb
      have full : t1.tooFull = decide ((L.length + 1) * 5 ≥ t.mask * 3) := by
        unfold SetTable.tooFull
        rw [q9, List.length_map, q4]
      by_cases hf : t1.tooFull = true
      · refine wp_if_pos (by rw [tf.mpr hf]; rfl) ?_
        rw [full, decide_eq_true_eq] at hf
        rw [hsl]
        have two : (t.mask = 7 ∧ L.length = 4) ∨ (t.mask = 31 ∧ L.length = 18) := by
          rcases R.tab.mok with e | e | e <;> rw [e] at hf hroom
          · exact .inl ⟨e, by omega⟩
          · exact .inr ⟨e, by omega⟩
          · omega
        have go : ∀ M, SetTable.sizeAbove (SetTable.grown (L.length + 1)) - 1 = M → MaskOk M → SetTable.sizeAbove (SetTable.grown (L.length + 1)) ≤ 128 → (L.length + 1) * 5 < M * 3 →
            wpAny (model P w) A (do
              setRelay a (SetTable.grown (L.length + 1))
              pure true) Q E { s with heap := h1 } := fun M g1 g2 g3 g4 => by
          refine wpAny_bind (lay_anew (s := { s with heap := h1 }) ho1 ⟨hex.1, hex.2.1, hex.2.2⟩ rfl rows1 T2 (by rw [len1, m2]; rcases two with ⟨e, e3⟩ | ⟨e, e3⟩ <;> omega) nd1 keys1 (by rw [len1]; exact few) (by rw [e2]; exact R.led) g1 g2 g3 (by rw [len1]; exact g4) ?_)
          intro h2 L2 es2 ep2 t3 sb2 R2 pm2
          exact wpAny_pure (hQ true h2 L2 es2 ep2 t3 (sb.trans sb2) R2 (fun z => absurd z hm) fun _ => pm2.trans pm)
        rcases two with ⟨_, e3⟩ | ⟨_, e3⟩
        · exact go 31 (by rw [e3, size_20]) (.inr (.inl rfl)) (by rw [e3, size_20]; decide) (by omega)
        · exact go 127 (by rw [e3, size_76]) (.inr (.inr rfl)) (by rw [e3, size_76]; decide) (by omega)
      · refine wp_if_neg (by intro z; exact hf (tf.mp (by simpa using z))) ?_
        refine wpAny_pure (hQ true h1 L1 es1 (ep + 1) t2 sb ⟨⟨_, ho1, ⟨hex.1, hex.2.1, hex.2.2⟩, rfl⟩, rows1, T2, nd1, keys1, ?_, by rw [len1]; exact few, by rw [e2]; exact R.led⟩ (fun z => absurd z hm) fun _ => pm)
        rw [full, decide_eq_true_eq] at hf
        rw [len1, m2]
        omega
    have ends : ∀ b : Bool, wpAny (model P w) A (do
          storeSet a es1 (if b = true then t1 else { t1 with plain := false })
          if (!false && (if b = true then t1 else { t1 with plain := false }).tooFull) = true then do
            setRelay a (SetTable.grown (es.size + 1))
            pure true
          else pure true) Q E s := fun b => by
      cases b with
      | true => exact rest t1 q3 q4 q5 Iff.rfl
      | false => exact rest { t1 with plain := false } (TabOk.plainly q3 false) q4 q5 Iff.rfl
    by_cases hp : t1.plain = true
    · refine wp_if_pos hp ?_
      exact wpAny_bind (key_hashBy k _ 8 s hx.1 hx.2 _ _ _ (ends (byVal k)))
    · refine wp_if_neg hp ?_
      exact wpAny_bind (wpAny_pure (ends true))
end
end Sn
namespace Sn
open PySem PyProof.Rows L2
def InSet (ks : List (Addr × NestedKey)) (i : Nat) (L : List (Addr × NestedKey)) : Prop := (∀ p ∈ L, p ∈ ks.take i) ∧ (∀ p ∈ ks.take i, p.2 ∈ L.map (·.2)) ∧ L.length ≤ i
theorem InSet.next {ks L L' : List (Addr × NestedKey)} {i : Nat} {x : Addr × NestedKey} (g : InSet ks i L) (h : ks[i]? = some x) (old : x.2 ∈ L.map (·.2) → L' = L) (new : x.2 ∉ L.map (·.2) → L'.Perm (x :: L)) : InSet ks (i + 1) L' := by
  have e : ks.take (i + 1) = ks.take i ++ [x] := by rw [List.take_succ, h]; rfl
  obtain ⟨g1, g2, g3⟩ := g
  by_cases c : x.2 ∈ L.map (·.2)
  · rw [old c]
    refine ⟨fun p hp => by rw [e]; exact List.mem_append_left _ (g1 p hp), fun p hp => ?_, by omega⟩
    rw [e] at hp
    rcases List.mem_append.mp hp with z | z
    · exact g2 p z
    · rw [List.mem_singleton.mp z]; exact c
  · have pm := new c
    refine ⟨fun p hp => ?_, fun p hp => ?_, by rw [pm.length_eq, List.length_cons]; omega⟩
    · rw [e]
      rcases List.mem_cons.mp (pm.mem_iff.mp hp) with z | z
      · rw [z]; exact List.mem_append_right _ (List.mem_singleton.mpr rfl)
      · exact List.mem_append_left _ (g1 p z)
    · rw [(pm.map (·.2)).mem_iff, List.map_cons]
      rw [e] at hp
      rcases List.mem_append.mp hp with z | z
      · exact List.mem_cons_of_mem _ (g2 p z)
      · rw [List.mem_singleton.mp z]; exact List.mem_cons_self
section
variable {P : Program} {w : World} {A : Around} {E : Value → Shared → Prop} {s : Shared}
theorem key_keep {h h' : Heap} {k : NestedKey} {b : Addr} (x : (nestedKind P w).is h k b) (hk : ∀ c o, h.get? c = some o → h'.get? c = some o) : (nestedKind P w).is h' k b :=
  ⟨NestedIs.at (fun c o _ _ e _ => hk c o e) k _ x.1, x.2⟩
theorem NSet.moved {h h' : Heap} {a : Addr} {L : List (Addr × NestedKey)} {es : Array (Int × Value)} {ep : Nat} {t : SetTable} (R : NSet P w h a L es ep t) (ha : ∀ o, h.get? a = some o → h'.get? a = some o) (ht : ∀ p ∈ L, (nestedKind P w).is h' p.2 p.1) : NSet P w h' a L es ep t := by
  obtain ⟨o, ho, r⟩ := R.here
  exact ⟨⟨o, ha o ho, r⟩, R.rows, R.tab, R.nodup, ht, R.room, R.few, R.led⟩
theorem NSet.void {h : Heap} {a : Addr} {b : Bool} (ho : h.get? a = some { cls := .type "set", dict := none, data := .set #[] 0 (.fresh 0 0 b) }) (hb : w.params.followText "set-order" = true ∨ b = true) : NSet P w h a [] #[] 0 (.fresh 0 0 b) where
  here := ⟨_, ho, ⟨rfl, rfl, rfl⟩, rfl⟩
  rows := rfl
  tab := ⟨List.Pairwise.nil, rfl, rfl, .inl rfl, fun x hx => (by cases hx), fun i h j hi => (by simp at hi)⟩
  nodup := List.nodup_nil
  keys := fun p hp => (by cases hp)
  room := by show 0 * 5 < 7 * 3; decide
  few := by show 0 < 64; decide
  led := hb
end
end Sn
namespace Sn
open PySem PyProof.Rows L2
section
variable {P : Program} {w : World} {A : Around} {E : Value → Shared → Prop} {s : Shared}
theorem fill {I : Addr} {fp wr : List Addr} {G : Array GenState → Array GenState → Prop} {n : Nat} {Pv : Nat → Value → Prop} {St : Nat → Shared → Prop} {R : Result → Shared → Prop}
    (W : WalksS P w A.in1 I fp wr G n Pv St) (S : Addr) (hS : S ∉ fp) (ks : List (Addr × NestedKey)) (hn : n = ks.length) (few : ks.length < 64) (val : ∀ i v, Pv i v → ∃ p, ks[i]? = some p ∧ v = .ref p.1)
    (h0 : Heap) (keys : ∀ p ∈ ks, (nestedKind P w).is h0 p.2 p.1) (none0 : h0.get? S = none) (nonew : ∀ b ∈ wr, h0.get? b = none) (hu : (nestedKind P w).room A.in1) :
    ∀ (k i : Nat) (s : Shared), n - i = k → i ≤ n → St i s → (∀ b o, h0.get? b = some o → s.heap.get? b = some o) → (∃ L es ep t, NSet P w s.heap S L es ep t ∧ InSet ks i L) →
      (∀ s' L es ep t, Moved (S :: wr) G s s' → NSet P w s'.heap S L es ep t → InSet ks n L → (∀ b o, h0.get? b = some o → s'.heap.get? b = some o) → R (.ok (.ret .none)) s') →
      codeAny (model P w) A (.builtin "set.update.loop" ⟨[.ref S, .ref I], []⟩) R s := by
  have hSw : S ∉ wr := fun h => hS (W.sub _ h)
  have up : ∀ b ∈ wr, b ∈ S :: wr := fun b hb => List.mem_cons_of_mem _ hb
  have stays : ∀ {s s' : Shared}, Moved wr G s s' → (∀ b o, h0.get? b = some o → s.heap.get? b = some o) → ∀ b o, h0.get? b = some o → s'.heap.get? b = some o := fun m q b o e =>
    m.heap b o (fun hb => by rw [nonew b hb] at e; cases e) (q b o e)
  have among : ∀ {i : Nat} {L : List (Addr × NestedKey)}, InSet ks i L → ∀ p ∈ L, p ∈ ks := fun g p hp => List.mem_of_mem_take (g.1 p hp)
  intro k
  induction k with
  | zero =>
    intro i s hk hi hst q ⟨L, es, ep, t, N, g⟩ hR
    have hin : i = n := by omega
    subst hin
    refine codeAny_builtin F.entry_set_update_loop ?_
    rw [Around.under_plainId F.plain_set_update_loop _]
    show wpAny _ A.in1 (pyNext (.ref I) >>= _) _ _ s
    refine wpAny_bind (W.done s _ _ hst fun s' m => ?_)
    show wpAny _ A.in1 (ret Value.none) _ _ s'
    exact wpAny_pure (hR s' L es ep t (m.mono up) (N.moved (fun o e => m.heap S o hSw e) fun p hp => key_keep (keys p (among g p hp)) (stays m q)) g (stays m q))
  | succ k ih =>
    intro i s hk hi hst q ⟨L, es, ep, t, N, g⟩ hR
    have lt : i < n := by omega
    refine codeAny_builtin F.entry_set_update_loop ?_
    rw [Around.under_plainId F.plain_set_update_loop _]
    show wpAny _ A.in1 (pyNext (.ref I) >>= _) _ _ s
    refine wpAny_bind (W.item i s _ _ lt hst fun v s' hv hst' m => ?_)
    obtain ⟨p, hp, rfl⟩ := val i v hv
    have q' := stays m q
    have N' : NSet P w s'.heap S L es ep t := N.moved (fun o e => m.heap S o hSw e) fun p hp => key_keep (keys p (among g p hp)) q'
    have hx : (nestedKind P w).is s'.heap p.2 p.1 := key_keep (keys p (List.mem_of_getElem? hp)) q'
    show wpAny _ A.in1 (holding [Value.ref p.1] (setAdd S (.ref p.1)) >>= _) _ _ s'
    refine wpAny_bind (wpAny_holding ?_)
    unfold setAdd
    refine wpAny_holding ?_
    refine wpAny_bind ((nestedKind P w).pyHash hu hx ?_)
    refine put_key (s := { s' with toks := s'.toks + (nestedKind P w).draws p.2 }) N' hx hu (by have := g.2.2; omega) fun b h' L' es' ep' t' sb N2 c1 c2 => ?_
    have g' : InSet ks (i + 1) L' := g.next hp c1 c2
    have q2 : ∀ b o, h0.get? b = some o → h'.get? b = some o := fun b o e => (sb.2 b (fun z => by rw [z, none0] at e; cases e)).trans (q' b o e)
    refine wpAny_pure ⟨plainId_quiet F.plain_set_update_loop _, ih (i + 1) _ (by omega) lt (W.frame _ s' _ _ hst' (Nat.le_add_right _ _) fun b hb o e => ?_) q2 ⟨L', es', ep', t', N2, g'⟩ fun s'' L2 es2 ep2 t2 m2 N3 g2 q3 => ?_⟩
    · rw [sb.2 b (fun h : b = S => hS (by rw [← h]; exact hb))]; exact e
    · refine hR s'' L2 es2 ep2 t2 (Moved.trans W.gtrans ((m.mono up).then_heap (Nat.le_add_right _ _) fun b o hb e => ?_) m2) N3 g2 q3
      rw [sb.2 b (fun h : b = S => hb (by rw [h]; exact List.mem_cons_self))]; exact e
end
end Sn
namespace Sn
open PySem PyProof.Rows L2
def fresh (w : World) : Obj := { cls := .type "set", dict := none, data := .set #[] 0 (.fresh 0 0 (!w.params.followText "set-order")) }
theorem beyond (h : Heap) {b : Addr} (hb : h.objs.size ≤ b) : h.get? b = none := by
  match q : h.get? b with
  | none => rfl
  | some u => exact absurd (Heap.lt_size q) (Nat.not_lt.mpr hb)
theorem item_key {items : Array Value} {ks : List (Addr × NestedKey)} (e : items.toList = ks.map fun p => Value.ref p.1) {i : Nat} {v : Value} (hv : items[i]? = some v) : ∃ p, ks[i]? = some p ∧ v = .ref p.1 := by
  rw [← Array.getElem?_toList, e, List.getElem?_map, Option.map_eq_some_iff] at hv
  obtain ⟨p, h1, h2⟩ := hv
  exact ⟨p, h1, h2.symm⟩
section
variable {P : Program} {w : World} {A : Around} {E : Value → Shared → Prop} {s : Shared}
def Full (P : Program) (w : World) (s : Shared) (ks : List (Addr × NestedKey)) (u : Shared) : Prop :=
  ∃ h' tk L es ep t, u = { s with heap := h', toks := tk } ∧ NSet P w h' s.heap.objs.size L es ep t ∧ InSet ks ks.length L ∧ (∀ b o, s.heap.get? b = some o → h'.get? b = some o)
theorem set_of {l : Addr} {items : Array Value} (ks : List (Addr × NestedKey)) {Q : Value → Shared → Prop} (free : A.handled = none) (isL : s.heap.IsList l items) (e : items.toList = ks.map fun p => Value.ref p.1)
    (keys : ∀ p ∈ ks, (nestedKind P w).is s.heap p.2 p.1) (few : ks.length < 64) (hu : A.units + 11 < cLine) (h : ∀ u, Full P w s ks u → Q (.ref s.heap.objs.size) u) :
    wpAny (model P w) A (call (.type "set") [.ref l]) Q E s := by
  have m : items.size = ks.length := by rw [← Array.length_toList, e, List.length_map]
  obtain ⟨_, _, mro⟩ := F.called_set.mro
  have f1 := F.called_set.made
  have f2 := F.called_set.sub
  have f3 := F.called_set.notType
  have f4 := F.called_set.canCreate
  have f5 := F.typeCall_set_1 (.ref l)
  refine wpAny_call (codeAny_of_tree (wpAny_pure ⟨Code.quiet_builtin _ (by decide +kernel), codeAny_builtin F.entry_type_call ?made⟩))
  case made =>
    rw [Around.under_plain (weight_type_call_type "set" [.ref l] []) rfl]
    repeat any_goals (first | assumption | wp_step)
    refine codeAny_mono (code_set_led1 (.ref l) (E := E) (Q₁ := fun v u => v = .ref s.heap.objs.size ∧ u = { s with heap := s.heap.push (fresh w) }) ⟨rfl, rfl⟩) fun r u made => ?_
    cases r with
    | error _ => exact made
    | ok flow =>
      cases flow <;> first | exact made.elim | skip
      obtain ⟨rfl, rfl⟩ := made
      have here : (s.heap.push (fresh w)).get? s.heap.objs.size = some (fresh w) := Heap.get?_push_size _ rfl
      have ty : Shared.TypeIs { s with heap := s.heap.push (fresh w) } (.ref s.heap.objs.size) "set" := ⟨_, here, rfl⟩
      have g1 := F.called_set.init.lookup
      have g2 := F.called_set.init.bind (.ref s.heap.objs.size)
      repeat any_goals (first | assumption | wp_step)
      refine codeAny_mono (codeAny_call_builtin (R := wants (fun r u => r = .none ∧ Full P w s ks u) E) F.called_set.init.plain F.entry_set_init (check_set_init_1 ty ?init)) fun r u ends => ?_
      case init =>
        obtain ⟨⟨_, od, _, osl⟩, at0, cl0, n0, da0⟩ := isL
        simp only at cl0 da0
        subst cl0 da0
        have at1 : (s.heap.push (fresh w)).get? l = some { cls := .type "list", dict := od, data := .seq items n0, slots := osl } := Heap.get?_push_of_some _ at0
        have is1 : (s.heap.push (fresh w)).IsList l items := ⟨_, at1, rfl, n0, rfl⟩
        have g3 := F.sub_list_set
        have g4 := F.sub_list_frozenset
        have g5 : (Value.type "list" == Value.type "dict") = false := rfl
        have low : l < s.heap.objs.size := Heap.lt_size at0
        have top : (s.heap.push (fresh w)).objs.size = s.heap.objs.size + 1 := Heap.size_push ..
        have far : l ≠ (s.heap.push (fresh w)).objs.size := by rw [top]; exact Nat.ne_of_lt (Nat.lt_succ_of_lt low)
        have apart : s.heap.objs.size ∉ [(s.heap.push (fresh w)).objs.size, l] := by
          rw [top, List.mem_cons, List.mem_singleton, not_or]
          exact ⟨Nat.ne_of_lt (Nat.lt_succ_self _), Nat.ne_of_gt low⟩
        unfold Builtin.«set.__init__» Builtin.Frozenset.updateFrom noKeywords
        generalize pyf : pyIter = f
        wp_walk
        subst pyf
        refine wpAny_pyIter_list is1 (wpAny_bind (wpAny_runValue ?loop))
        case loop =>
          refine fill ((Walks.list (by simp [free]) _ l far items).toS) s.heap.objs.size apart ks m few (fun _ _ => item_key e) s.heap keys (beyond _ (Nat.le_refl _))
            (fun b hb => beyond _ (by rw [List.mem_singleton.mp hb, top]; omega)) (by show _ + 8 < cLine; simp; omega) items.size 0 _ rfl (Nat.zero_le _) ⟨⟨_, Heap.get?_push_size _ rfl, rfl, rfl⟩, is1.push _⟩
            (fun b o q => Heap.get?_push_of_some _ (Heap.get?_push_of_some _ q)) ⟨[], #[], 0, _, NSet.void (Heap.get?_push_of_some _ here) (by cases w.params.followText "set-order" <;> simp), (fun p z => by cases z), (fun p z => by simp at z), Nat.le_refl _⟩ ?_
          rintro ⟨h', g', d', tk, os'⟩ L es ep t mv N g kept
          obtain rfl : g' = s.gens := mv.gens
          obtain rfl : d' = s.drawn := mv.drawn
          obtain rfl : os' = s.os := mv.os
          rw [m] at g
          refine wpAny_pure ?_
          show wpAny _ _ (ret Value.none) _ _ _
          exact wpAny_pure ⟨rfl, h', tk, L, es, ep, t, rfl, N, g, kept⟩
      cases r with
      | error _ => exact ends
      | ok flow =>
        cases flow <;> first | exact ends.elim | skip
        obtain ⟨rfl, full⟩ := ends
        repeat any_goals (first | assumption | wp_step)
        exact h _ full
end
end Sn
namespace Sn
open PySem PyProof.Rows L2
section
variable {P : Program} {w : World} {A : Around} {E : Value → Shared → Prop} {s : Shared}
theorem set_ofT {l : Addr} {items : Array Value} (ks : List (Addr × NestedKey)) {Q : Value → Shared → Prop} (free : A.handled = none) (isL : s.heap.IsTuple l items) (e : items.toList = ks.map fun p => Value.ref p.1)
    (keys : ∀ p ∈ ks, (nestedKind P w).is s.heap p.2 p.1) (few : ks.length < 64) (hu : A.units + 11 < cLine) (h : ∀ u, Full P w s ks u → Q (.ref s.heap.objs.size) u) :
    wpAny (model P w) A (call (.type "set") [.ref l]) Q E s := by
  have m : items.size = ks.length := by rw [← Array.length_toList, e, List.length_map]
  obtain ⟨_, _, mro⟩ := F.called_set.mro
  have f1 := F.called_set.made
  have f2 := F.called_set.sub
  have f3 := F.called_set.notType
  have f4 := F.called_set.canCreate
  have f5 := F.typeCall_set_1 (.ref l)
  refine wpAny_call (codeAny_of_tree (wpAny_pure ⟨Code.quiet_builtin _ (by decide +kernel), codeAny_builtin F.entry_type_call ?made⟩))
  case made =>
    rw [Around.under_plain (weight_type_call_type "set" [.ref l] []) rfl]
    repeat any_goals (first | assumption | wp_step)
    refine codeAny_mono (code_set_led1 (.ref l) (E := E) (Q₁ := fun v u => v = .ref s.heap.objs.size ∧ u = { s with heap := s.heap.push (fresh w) }) ⟨rfl, rfl⟩) fun r u made => ?_
    cases r with
    | error _ => exact made
    | ok flow =>
      cases flow <;> first | exact made.elim | skip
      obtain ⟨rfl, rfl⟩ := made
      have here : (s.heap.push (fresh w)).get? s.heap.objs.size = some (fresh w) := Heap.get?_push_size _ rfl
      have ty : Shared.TypeIs { s with heap := s.heap.push (fresh w) } (.ref s.heap.objs.size) "set" := ⟨_, here, rfl⟩
      have g1 := F.called_set.init.lookup
      have g2 := F.called_set.init.bind (.ref s.heap.objs.size)
      repeat any_goals (first | assumption | wp_step)
      refine codeAny_mono (codeAny_call_builtin (R := wants (fun r u => r = .none ∧ Full P w s ks u) E) F.called_set.init.plain F.entry_set_init (check_set_init_1 ty ?init)) fun r u ends => ?_
      case init =>
        obtain ⟨⟨_, od, _, osl⟩, at0, cl0, n0, da0⟩ := isL
        simp only at cl0 da0
        subst cl0 da0
        have at1 : (s.heap.push (fresh w)).get? l = some { cls := .type "tuple", dict := od, data := .seq items n0, slots := osl } := Heap.get?_push_of_some _ at0
        have is1 : (s.heap.push (fresh w)).IsTuple l items := ⟨_, at1, rfl, n0, rfl⟩
        have g3 := F.sub_tuple_set
        have g4 := F.sub_tuple_frozenset
        have g5 : (Value.type "tuple" == Value.type "dict") = false := rfl
        have low : l < s.heap.objs.size := Heap.lt_size at0
        have top : (s.heap.push (fresh w)).objs.size = s.heap.objs.size + 1 := Heap.size_push ..
        have far : l ≠ (s.heap.push (fresh w)).objs.size := by rw [top]; exact Nat.ne_of_lt (Nat.lt_succ_of_lt low)
        have apart : s.heap.objs.size ∉ [(s.heap.push (fresh w)).objs.size, l] := by
          rw [top, List.mem_cons, List.mem_singleton, not_or]
          exact ⟨Nat.ne_of_lt (Nat.lt_succ_self _), Nat.ne_of_gt low⟩
        unfold Builtin.«set.__init__» Builtin.Frozenset.updateFrom noKeywords
        generalize pyf : pyIter = f
        wp_walk
        subst pyf
        refine wpAny_pyIter_tuple is1 (wpAny_bind (wpAny_runValue ?loop))
        case loop =>
          refine fill ((Walks.tuple (by simp [free]) _ l far items).toS) s.heap.objs.size apart ks m few (fun _ _ => item_key e) s.heap keys (beyond _ (Nat.le_refl _))
            (fun b hb => beyond _ (by rw [List.mem_singleton.mp hb, top]; omega)) (by show _ + 8 < cLine; simp; omega) items.size 0 _ rfl (Nat.zero_le _) ⟨⟨_, Heap.get?_push_size _ rfl, rfl, rfl⟩, is1.at fun o e => Heap.get?_push_of_some _ e⟩
            (fun b o q => Heap.get?_push_of_some _ (Heap.get?_push_of_some _ q)) ⟨[], #[], 0, _, NSet.void (Heap.get?_push_of_some _ here) (by cases w.params.followText "set-order" <;> simp), (fun p z => by cases z), (fun p z => by simp at z), Nat.le_refl _⟩ ?_
          rintro ⟨h', g', d', tk, os'⟩ L es ep t mv N g kept
          obtain rfl : g' = s.gens := mv.gens
          obtain rfl : d' = s.drawn := mv.drawn
          obtain rfl : os' = s.os := mv.os
          rw [m] at g
          refine wpAny_pure ?_
          show wpAny _ _ (ret Value.none) _ _ _
          exact wpAny_pure ⟨rfl, h', tk, L, es, ep, t, rfl, N, g, kept⟩
      cases r with
      | error _ => exact ends
      | ok flow =>
        cases flow <;> first | exact ends.elim | skip
        obtain ⟨rfl, full⟩ := ends
        repeat any_goals (first | assumption | wp_step)
        exact h _ full
end
end Sn
namespace Eg
open PySem L2 PySem.W PySem.SeqAt PySem.Spec PyProof.Rows
open Sn (NSet)
structure NObj (w : World) (a : Addr) (L : List (Addr × NestedKey)) (h : Heap) : Prop where
  ex : ∃ (es : Array (Int × Value)) (ep : Nat) (t : SetTable), (∃ o, h.get? a = some o ∧ o.ExactSet ∧ o.data = .set es ep t) ∧ (es.toList = L.map fun p => (p.2.hash w, Value.ref p.1)) ∧ TabOk t (L.map fun p => p.2.hash w) ∧ L.length * 5 < t.mask * 3 ∧ (w.params.followText "set-order" = true ∨ t.led = true)
  nodup : (L.map (·.2)).Nodup
  few : L.length < 64
def NO (w : World) (a : Addr) (L : List (Addr × NestedKey)) : HO := .ext (NObj w a L)
theorem no_new {P : Program} {w : World} {H : Hp} {h : Heap} {a : Addr} {L : List (Addr × NestedKey)} {es : Array (Int × Value)} {ep : Nat} {t : SetTable} (R : NSet P w h a L es ep t) : ObjOk P w H h a (NO w a L) := by
  obtain ⟨o, ho, r⟩ := R.here
  refine ⟨⟨⟨es, ep, t, R.here, R.rows, R.tab, R.room, R.led⟩, R.nodup, R.few⟩, ⟨o, ho⟩, fun h1 h2 p k => ?_⟩
  obtain ⟨⟨es, ep, t, ⟨o, ho, r⟩, q⟩, n1, n2⟩ := p
  exact ⟨⟨es, ep, t, ⟨o, k o ho, r⟩, q⟩, n1, n2⟩
theorem no_full {P : Program} {w : World} {h : Heap} {a : Addr} {L : List (Addr × NestedKey)} (R : NObj w a L h) (keys : ∀ p ∈ L, (nestedKind P w).is h p.2 p.1) : ∃ es ep t, NSet P w h a L es ep t := by
  obtain ⟨⟨es, ep, t, h1, h2, h3, h4, h5⟩, n1, n2⟩ := R
  exact ⟨es, ep, t, h1, h2, h3, n1, keys, h4, n2, h5⟩
inductive KA (K : Kw) (F : Hp) : List (Addr × NestedKey) → List PyData → Prop
  | nil : KA K F [] []
  | cons {a : Addr} {d : PyData} {ks : List (Addr × NestedKey)} {ds : List PyData} : keyT d = true → DV K F (.ref a) d → KA K F ks ds → KA K F ((a, nk d) :: ks) (d :: ds)
theorem KA.of {K : Kw} {F : Hp} : ∀ {vs : List V} {ds : List PyData}, DVs K F vs ds → (∀ d ∈ ds, keyT d = true) → ∃ ks, KA K F ks ds ∧ vs = ks.map fun p => V.ref p.1
  | _, _, .nil, _ => ⟨[], .nil, rfl⟩
  | _, _, .cons (d := d) h t, k => by
    obtain ⟨a, rfl⟩ := dv_tup h (k d List.mem_cons_self)
    obtain ⟨ks, r, e⟩ := KA.of t fun d hd => k d (List.mem_cons_of_mem _ hd)
    exact ⟨(a, nk d) :: ks, .cons (k d List.mem_cons_self) h r, by rw [List.map_cons, e]⟩
theorem KA.len {K : Kw} {F : Hp} : ∀ {ks : List (Addr × NestedKey)} {ds : List PyData}, KA K F ks ds → ks.length = ds.length
  | _, _, .nil => rfl
  | _, _, .cons _ _ t => by rw [List.length_cons, List.length_cons, KA.len t]
theorem KA.mem {K : Kw} {F : Hp} : ∀ {ks : List (Addr × NestedKey)} {ds : List PyData}, KA K F ks ds → ∀ p ∈ ks, ∃ d ∈ ds, keyT d = true ∧ p.2 = nk d ∧ DV K F (.ref p.1) d
  | _, _, .nil, p, hp => nomatch hp
  | _, _, .cons (d := d) h1 h2 t, p, hp => by
    rcases List.mem_cons.mp hp with e | hp
    · rw [e]; exact ⟨d, List.mem_cons_self, h1, rfl, h2⟩
    · obtain ⟨d, hd, r⟩ := KA.mem t p hp
      exact ⟨d, List.mem_cons_of_mem _ hd, r⟩
theorem KA.mem' {K : Kw} {F : Hp} : ∀ {ks : List (Addr × NestedKey)} {ds : List PyData}, KA K F ks ds → ∀ d ∈ ds, ∃ p ∈ ks, p.2 = nk d
  | _, _, .nil, d, hd => nomatch hd
  | _, _, .cons (a := a) (d := e) h1 h2 t, d, hd => by
    rcases List.mem_cons.mp hd with z | hd
    · rw [z]; exact ⟨(a, nk e), List.mem_cons_self, rfl⟩
    · obtain ⟨p, hp, r⟩ := KA.mem' t d hd
      exact ⟨p, List.mem_cons_of_mem _ hp, r⟩
def once : List PyData → List PyData
  | [] => []
  | d :: ds => d :: (once ds).filter fun e => !decide (nk e = nk d)
theorem once_mem : ∀ {ds : List PyData} {d : PyData}, d ∈ once ds → d ∈ ds
  | [], _, h => h
  | x :: ds, d, h => by
    rcases List.mem_cons.mp h with e | h
    · exact List.mem_cons.mpr (.inl e)
    · exact List.mem_cons_of_mem _ (once_mem (List.mem_filter.mp h).1)
theorem once_all : ∀ {ds : List PyData} {d : PyData}, d ∈ ds → ∃ e ∈ once ds, nk e = nk d
  | x :: ds, d, h => by
    by_cases q : nk x = nk d
    · exact ⟨x, List.mem_cons_self, q⟩
    · rcases List.mem_cons.mp h with e | h
      · exact absurd (by rw [e]) q
      · obtain ⟨e, he, k⟩ := once_all h
        exact ⟨e, List.mem_cons_of_mem _ (List.mem_filter.mpr ⟨he, by simpa using fun z => q (z.symm.trans k)⟩), k⟩
theorem once_nodup : ∀ ds : List PyData, ((once ds).map nk).Nodup
  | [] => List.nodup_nil
  | d :: ds => by
    rw [once, List.map_cons, List.nodup_cons]
    refine ⟨fun h => ?_, ?_⟩
    · obtain ⟨e, he, q⟩ := List.mem_map.mp h
      simpa [q] using (List.mem_filter.mp he).2
    · exact List.Nodup.sublist (List.Sublist.map nk List.filter_sublist) (once_nodup ds)
theorem vals_refs' : ∀ {ks : List (Addr × NestedKey)} {us : List Value}, Vals (ks.map fun p => V.ref p.1) us → us = ks.map fun p => Value.ref p.1
  | [], _, .nil => rfl
  | p :: ks, _, .cons r t => by
    cases r
    rw [vals_refs' t]
    rfl
theorem le_both {d e : PyData} (h1 : dataLe false id d e = true) (h2 : dataLe false id e d = true) : keyToks d = keyToks e := by
  have a : (!dataLt e d) = true := h1
  have b : (!dataLt d e) = true := h2
  simp only [Bool.not_eq_true'] at a b
  exact (PyProof.Rows.listOrd PyProof.Rows.itemOrd).total _ _ b a
mutual
theorem toks_inj : ∀ (x y : PyData) (l m : List (Int ⊕ List Nat)), alike x y = true → keyB x = true → keyB y = true → keyToks x ++ l = keyToks y ++ m → x = y ∧ l = m
  | .none, y, l, m, h, hx, hy, e => by cases y <;> simp [alike] at h; exact ⟨rfl, by simpa [keyToks] using e⟩
  | .int i, y, l, m, h, hx, hy, e => by
    cases y <;> simp [alike] at h
    simp only [keyToks, List.cons_append, List.nil_append, List.cons.injEq, Sum.inl.injEq] at e
    exact ⟨by rw [e.1], e.2⟩
  | .str i, y, l, m, h, hx, hy, e => by
    cases y <;> simp [alike] at h
    simp only [keyToks, List.cons_append, List.nil_append, List.cons.injEq, Sum.inr.injEq] at e
    exact ⟨by rw [str_of_cps e.1], e.2⟩
  | .tuple xs, y, l, m, h, hx, hy, e => by
    cases y <;> simp [alike] at h
    rw [keyB] at hx hy
    simp only [keyToks] at e
    obtain ⟨a, b⟩ := toksAll_inj xs _ l m h hx hy e
    exact ⟨by rw [a], b⟩
  | .bool _, _, _, _, _, hx, _, _ => by simp [keyB] at hx
  | .list _, _, _, _, _, hx, _, _ => by simp [keyB] at hx
  | .dict _, _, _, _, _, hx, _, _ => by simp [keyB] at hx
theorem toksAll_inj : ∀ (xs ys : List PyData) (l m : List (Int ⊕ List Nat)), alikeAll xs ys = true → keyBs xs = true → keyBs ys = true → keyToksAll xs ++ l = keyToksAll ys ++ m → xs = ys ∧ l = m
  | [], ys, l, m, h, hx, hy, e => by
    cases ys with
    | nil => exact ⟨rfl, by simpa [keyToksAll] using e⟩
    | cons y ys => simp [keyToksAll] at e
  | x :: xs, ys, l, m, h, hx, hy, e => by
    cases ys with
    | nil => simp [keyToksAll] at e
    | cons y ys =>
      rw [keyBs, Bool.and_eq_true] at hx hy
      obtain ⟨h1, h2⟩ := alike_all_cons h
      rw [toks_all_cons, toks_all_cons, List.cons_append, List.cons_append, List.append_assoc, List.append_assoc] at e
      obtain ⟨a, b⟩ := toks_inj x y _ _ h1 hx.1 hy.1 (List.cons.inj e).2
      obtain ⟨c, d⟩ := toksAll_inj xs ys l m h2 hx.2 hy.2 b
      exact ⟨by rw [a, c], d⟩
end
open List in
theorem sort_perm {ds es : List PyData} (p : ds ~ es) (al : ∀ d ∈ ds, ∀ e ∈ ds, alike d e = true) (kb : ∀ d ∈ ds, keyB d = true) : sortD ds = sortD es := by
  have tot : TotalLe (dataLe false id) := show TotalLe (sortLe (PyProof.Rows.listOrd PyProof.Rows.itemOrd) false fun b : PyData => keyToks (id b)) from sortLe_total _ _ _
  refine List.Perm.eq_of_pairwise (le := fun a b => dataLe false id a b = true) (fun a b ha hb h1 h2 => ?_) (sort_pairwise tot _) (sort_pairwise tot _) (((List.mergeSort_perm _ _).trans p).trans (List.mergeSort_perm _ _).symm)
  have ha' : a ∈ ds := (List.mem_mergeSort).mp ha
  have hb' : b ∈ ds := p.symm.mem_iff.mp ((List.mem_mergeSort).mp hb)
  have e := le_both h1 h2
  exact (toks_inj a b [] [] (al a ha' b hb') (kb a ha') (kb b hb') (by rw [e])).1
open List in
theorem perm_map {α β : Type} {f : α → β} : ∀ {vs us : List β}, vs ~ us → ∀ {L : List α}, us = L.map f → ∃ L', L' ~ L ∧ vs = L'.map f := by
  intro vs us p
  induction p with
  | nil => intro L e; exact ⟨L, .refl _, e⟩
  | @cons x l1 l2 p ih =>
    intro L e
    cases L with
    | nil => cases e
    | cons y L =>
      rw [List.map_cons] at e
      obtain ⟨e1, e2⟩ := List.cons.inj e
      obtain ⟨L', q, r⟩ := ih e2
      exact ⟨y :: L', q.cons y, by rw [List.map_cons, ← e1, r]⟩
  | swap x y l =>
    intro L e
    match L, e with
    | a :: b :: L, e =>
      rw [List.map_cons, List.map_cons] at e
      obtain ⟨e1, e2⟩ := List.cons.inj e
      obtain ⟨e2, e3⟩ := List.cons.inj e2
      exact ⟨b :: a :: L, .swap _ _ _, by rw [List.map_cons, List.map_cons, ← e1, ← e2, e3]⟩
  | trans _ _ i1 i2 =>
    intro L e
    obtain ⟨L2, q2, r2⟩ := i2 e
    obtain ⟨L1, q1, r1⟩ := i1 r2
    exact ⟨L1, q1.trans q2, r1⟩
theorem KA.each {K : Kw} {F : Hp} : ∀ {ks : List (Addr × NestedKey)} {ds : List PyData}, KA K F ks ds → EachIs (IsD' K F) (ks.map fun p => Value.ref p.1) ds ∧ ks.map (·.2) = ds.map nk
  | _, _, .nil => ⟨.nil, rfl⟩
  | _, _, .cons (a := a) _ h t => ⟨.cons ⟨.ref a, rfl, h⟩ (KA.each t).1, by rw [List.map_cons, List.map_cons, (KA.each t).2]⟩
theorem KA.sub {K : Kw} {F : Hp} {ds : List PyData} : ∀ {L : List (Addr × NestedKey)}, (∀ p ∈ L, ∃ d ∈ ds, keyT d = true ∧ p.2 = nk d ∧ DV K F (.ref p.1) d) → ∃ es, KA K F L es ∧ ∀ e ∈ es, e ∈ ds
  | [], _ => ⟨[], .nil, fun _ h => nomatch h⟩
  | (a, n) :: L, h => by
    obtain ⟨d, hd, k, e, r⟩ := h _ List.mem_cons_self
    obtain ⟨es, q, m⟩ := KA.sub fun p hp => h p (List.mem_cons_of_mem _ hp)
    have e : n = nk d := e
    subst e
    exact ⟨d :: es, .cons k r q, fun x hx => by
      rcases List.mem_cons.mp hx with z | hx
      · rw [z]; exact hd
      · exact m x hx⟩
theorem nodup_of_map {α β : Type} {f : α → β} {l : List α} (h : (l.map f).Nodup) : l.Nodup := by
  rw [List.nodup_iff_pairwise_ne, List.pairwise_map] at h
  exact List.nodup_iff_pairwise_ne.mpr (h.imp fun q z => q (by rw [z]))
open List in
theorem set_members {K : Kw} {F : Hp} {ds : List PyData} {L : List (Addr × NestedKey)} {vs : List Value} (kt : ∀ d ∈ ds, keyT d = true) (h1 : ∀ p ∈ L, ∃ d ∈ ds, keyT d = true ∧ p.2 = nk d ∧ DV K F (.ref p.1) d) (h2 : ∀ d ∈ ds, ∃ p ∈ L, p.2 = nk d) (nd : (L.map (·.2)).Nodup)
    (pm : vs ~ L.map fun p => Value.ref p.1) : ∃ es, EachIs (IsD' K F) vs es ∧ es ~ once ds ∧ ∀ e ∈ es, e ∈ ds := by
  obtain ⟨L', q, rfl⟩ := perm_map pm rfl
  obtain ⟨es, ka, mem⟩ := KA.sub (L := L') fun p hp => h1 p (q.mem_iff.mp hp)
  obtain ⟨e1, e2⟩ := ka.each
  have kb : ∀ d ∈ ds, keyB d = true := fun d hd => (keyT_at (kt d hd)).1
  refine ⟨es, e1, (List.perm_ext_iff_of_nodup (nodup_of_map (f := nk) ?_) (nodup_of_map (once_nodup ds))).mpr fun d => ⟨fun hd => ?_, fun hd => ?_⟩, mem⟩
  · rw [← e2]
    exact ((q.map (·.2)).nodup_iff).mpr nd
  · obtain ⟨e, he, z⟩ := once_all (mem d hd)
    rw [nk_inj e d (kb e (once_mem he)) (kb d (mem d hd)) z] at he
    exact he
  · have hd' := once_mem hd
    obtain ⟨p, hp, z⟩ := h2 d hd'
    have : nk d ∈ es.map nk := by
      rw [← e2]
      exact List.mem_map.mpr ⟨p, q.mem_iff.mpr hp, z⟩
    obtain ⟨e, he, z⟩ := List.mem_map.mp this
    rw [nk_inj e d (kb e (mem e he)) (kb d hd') z] at he
    exact he
def gKeys : List PyData → Option (List PyData)
  | [.list ds] => if ds.all keyT = true ∧ ds.length < 64 then some ds else none
  | [.tuple ds] => if ds.all keyT = true ∧ ds.length < 64 then some ds else none
  | _ => none
theorem sortOk_sub {ds es : List PyData} (h : sortOk ds = true) (m : ∀ e ∈ es, e ∈ ds) (l : es.length ≤ sizeLine) : sortOk es = true := by
  unfold sortOk alikeB at h ⊢
  simp only [Bool.and_eq_true, Bool.or_eq_true, List.all_eq_true, decide_eq_true_eq] at h ⊢
  obtain ⟨⟨⟨h1, h2⟩, h3⟩, h4⟩ := h
  exact ⟨⟨⟨fun d hd e he => h1 d (m d hd) e (m e he), h2.imp (fun z d hd => z d (m d hd)) fun z d hd => z d (m d hd)⟩, fun d hd => h3 d (m d hd)⟩, l⟩
def rSet (K : Kw) : RRel (List PyData) := fun F' H' _ _ _ _ v ds => ∃ a L, v = .ref a ∧ H' a = some (NO K.w a L) ∧ (∀ d ∈ ds, keyT d = true) ∧ (∀ p ∈ L, ∃ d ∈ ds, keyT d = true ∧ p.2 = nk d ∧ DV K F' (.ref p.1) d) ∧ (∀ d ∈ ds, ∃ p ∈ L, p.2 = nk d)
theorem stb_Set {K : Kw} : Stb (rSet K) := fun _ _ _ _ _ _ _ _ _ _ _ _ _ r => r
def tSet [Tbs] (C : Ct) (m : M (List PyData)) : TE := fun σ H Q => ∃ F ρ, SR C.K F H σ ρ ∧ PostE C (rSet C.K) σ ρ F H Q (m ρ)
section
variable {X : Cx} {C : Ct} {e : Expr} {pos p pos2 p2 : Pos}
theorem k_set [Tbs] {x : Str} {ms : M (List Arg)} (hc : X.calm = true) (hu : X.A.units + 64 < cLine) (hg : Gl X x) (hm : X.mg x = none) (hv : bootBuiltins x = some (.type "set")) (ha : PA X [e] (tL C ms)) (hn : x ≠ "__name__" := by decide) (hdb : (x == ("__debug__" : Str)) = false := by decide)
    (he : starEach [e] X.env = (false, eval e X.env) :: starEach [] X.env := by rfl) (hpl : (backTo pos (starEach [] X.env)).any (·.1) = false := by rfl) (hK : X.KW = C.K := by rfl) : PE X (.Call (.Name x p) [e] [] pos) (tSet C (mL gKeys ms)) := by
  refine ⟨fun pins s σ H Q I ⟨F, ρ, sr, pp⟩ => ?_⟩
  refine wpAny_Call_Name_kw (ld_blt I hg hm hv ?_ hn hdb)
  refine PyProof.Rows.callWith_type1 (thn (ha.run pos pins s σ H (fun xs H2 => ∃ ds d ρ2 F2, SR C.K F2 H2 σ ρ2 ∧ Vws C.K F2 H2 xs ds ∧ gKeys ds = some d ∧ PostE C (rSet C.K) σ ρ2 F2 H2 Q (.ok d ρ2)) I (many sr stb_Set pp fun xs ds d ρ2 F2 H2 s2 vw e q => ⟨ds, d, ρ2, F2, s2, vw, e, q⟩))
    fun us s1 ⟨vs, H1, I1, r1, ds, d, ρ2, F2, s2, vw, eg, q⟩ => ?_) he hpl
  have hw : X.w = C.K.w := congrArg Kw.w hK
  cases vw with
  | nil => cases eg
  | cons h t =>
    cases t with
    | cons _ _ => rename_i d _ _ _ _ _ _; cases d <;> cases eg
    | nil =>
      rename_i x d0
      obtain ⟨u, rfl, ru⟩ := vals1 r1
      have core : ∀ (es : List PyData) (ws : List V) (ks : List (Addr × NestedKey)) (its : List Value), es.all keyT = true → es.length < 64 → d = es → KA C.K F2 ks es → its = (ks.map fun p => Value.ref p.1) →
          (∀ p ∈ ks, (nestedKind X.prog X.w).is s1.heap p.2 p.1) ∧ ks.length < 64 ∧ ∀ u, Sn.Full X.prog X.w s1 ks u → EP X pins σ Q (.ref s1.heap.objs.size) u := fun es ws ks its kt few ed ka _ => by
        subst ed
        have kt := List.all_eq_true.mp kt
        refine ⟨fun p hp => ?_, by rw [ka.len]; exact few, fun u ⟨h', tk, L, es', ep, t, eu, N, g, keep⟩ => ?_⟩
        · obtain ⟨d, hd, k, e2, dv⟩ := ka.mem p hp
          rw [e2]
          obtain ⟨kb, kd, _⟩ := keyT_at k
          exact key_at I1 (hK ▸ DV.mono s2.sub dv) kb kd
        · subst eu
          have hn : H1 s1.heap.objs.size = none := I1.hok.fresh (Nat.le_refl _)
          refine ⟨.ref s1.heap.objs.size, _, I1.laid (t' := tk) (o := NO X.w s1.heap.objs.size L) keep (Nat.le_refl _) (no_new N), rfl, ?_⟩
          rw [hw]
          refine q F2 _ _ (Grow.fresh hn) (s2.fresh hn) ⟨_, L, rfl, upd_same, kt, fun p hp => ?_, fun d hd => ?_⟩
          · exact ka.mem p (List.mem_of_mem_take (g.1 p hp))
          · obtain ⟨p, hp, e2⟩ := ka.mem' d hd
            obtain ⟨p', hp', e3⟩ := List.mem_map.mp (g.2.1 p (by rw [List.take_length]; exact hp))
            exact ⟨p', hp', e3.trans e2⟩
      cases d0 with
      | list es =>
        simp only [gKeys] at eg
        split at eg <;> try cases eg
        rename_i cond
        obtain ⟨b, ws, rfl, h1, h2⟩ := h
        cases ru
        obtain ⟨its, rv, pl, _⟩ := I1.list (SqL.of h1)
        obtain ⟨ks, ka, ew⟩ := KA.of h2 (List.all_eq_true.mp cond.1)
        subst ew
        obtain ⟨c1, c2, c3⟩ := core d [] ks (ks.map fun p => Value.ref p.1) cond.1 cond.2 rfl ka rfl
        have ei : its = ks.map fun p => Value.ref p.1 := vals_refs' rv
        exact Sn.set_of ks (I1.ok.hd hc) pl.isList (by simpa using ei) c1 c2 (by omega) c3
      | tuple es =>
        simp only [gKeys] at eg
        split at eg <;> try cases eg
        rename_i cond
        have h' : DV C.K F2 x (.tuple d) := h
        cases h' with
        | tup h1 h2 =>
          cases ru
          rw [← hK] at s2
          obtain ⟨its, rv, pl, _⟩ := I1.tuple (s2.sub.sqT (hK ▸ h1))
          obtain ⟨ks, ka, ew⟩ := KA.of h2 (List.all_eq_true.mp cond.1)
          subst ew
          obtain ⟨c1, c2, c3⟩ := core d [] ks (ks.map fun p => Value.ref p.1) cond.1 cond.2 rfl ka rfl
          have ei : its = ks.map fun p => Value.ref p.1 := vals_refs' rv
          exact Sn.set_ofT ks (I1.ok.hd hc) (ei ▸ pl) (by simp) c1 c2 (by omega) c3
      | _ => cases eg
end
end Eg
namespace Eg
open PySem L2 PySem.W PySem.SeqAt PySem.Spec PyProof.Rows
theorem u9 {n : Nat} (h : n + 64 < cLine) : n + 9 < cLine := by omega
theorem b_set : bootBuiltins "set" = some (.type "set") := by decide +kernel
def gOnce (ds : List PyData) : Option OD := if sortOk ds = true then some (.ol (sortD (once ds))) else none
def mSSet (ms : M (List Arg)) : M OD := (mL gKeys ms).bind fun ds => M.lift (gOnce ds)
section
variable [Tbs] {X : Cx} {C : Ct} {e : Expr} {pos p pos2 p2 : Pos}
theorem coll_set {pins : List (Addr × Obj)} {σ : L2.St} {F H : Hp} {s : Shared} {a : Addr} {L : List (Addr × NestedKey)} {ds : List PyData} (hc : X.calm = true) (I : Inv X pins σ H s) (sub : Same F H) (hH : H a = some (NO X.w a L)) (kt : ∀ d ∈ ds, keyT d = true)
    (h1 : ∀ p ∈ L, ∃ d ∈ ds, keyT d = true ∧ p.2 = nk d ∧ DV X.KW F (.ref p.1) d) (h2 : ∀ d ∈ ds, ∃ p ∈ L, p.2 = nk d) (ok : sortOk ds = true) (E : Value → Shared → Prop) (R : List Value → Shared → Prop)
    (k : ∀ vs s1, (Kept s s1 ∧ ∃ es, EachIs (IsD' X.KW F) vs es ∧ sortOk es = true ∧ sortD es = sortD (once ds)) → R vs s1) : wpAny (model X.prog X.w) X.A.in1 (collect (.ref a)) R E s := by
  have ob : NObj X.w a L s.heap := (I.hok a _ hH).1
  obtain ⟨es, ep, t, N⟩ := no_full (P := X.prog) ob fun p hp => by
    obtain ⟨d, _, kd, e, dv⟩ := h1 p hp
    obtain ⟨kb, kd, _⟩ := keyT_at kd
    rw [e]
    exact key_at I (DV.mono sub dv) kb kd
  obtain ⟨o, ho, hex, hd⟩ := N.here
  have few := N.few
  have size := N.size
  refine collect_set (A := X.A.in1) (I.ok.hd hc) ⟨o, ho, hex.1, hd⟩ N.fits (by unfold scanBound; omega) N.tab.ris N.led fun s1 vs k1 hz g1 o1 pm => k vs s1 ⟨⟨k1, g1, o1, hz⟩, ?_⟩
  rw [show es.toList.map (·.2) = L.map fun p => Value.ref p.1 by rw [N.rows, List.map_map]; rfl] at pm
  obtain ⟨ws, e1, e2, e3⟩ := set_members kt h1 h2 N.nodup pm
  have sz : ws.length ≤ sizeLine := by
    rw [← e1.length, pm.length_eq, List.length_map, sizeLine_eq]
    omega
  obtain ⟨al, _⟩ := sortOk_at ok
  exact ⟨ws, e1, sortOk_sub ok e3 sz, sort_perm e2 (fun d hd e he => al d (e3 d hd) e (e3 e he)) fun d hd => (keyT_at (kt d (e3 d hd))).1⟩
theorem o_sset {ms : M (List Arg)} (hc : X.calm = true) (hu : X.A.units + 64 < cLine) (hg : Gl X "sorted") (hm : X.mg "sorted" = none) (hg2 : Gl X "set") (hm2 : X.mg "set" = none) (ha : PA X [e] (tL C ms))
    (he : starEach [e] X.env = (false, eval e X.env) :: starEach [] X.env := by rfl) (he2 : starEach [.Call (.Name "set" p2) [e] [] pos2] X.env = (false, eval (.Call (.Name "set" p2) [e] [] pos2) X.env) :: starEach [] X.env := by rfl) (hpl : (backTo pos (starEach [] X.env)).any (·.1) = false := by rfl) (hK : X.KW = C.K := by rfl) :
    PE X (.Call (.Name "sorted" p) [.Call (.Name "set" p2) [e] [] pos2] [] pos) (tO C (mSSet ms)) := by
  have inner := k_set (p := p2) (pos := pos2) hc hu hg2 hm2 b_set ha (by decide) (by decide) he rfl hK
  refine ⟨fun pins s σ H Q I ⟨F, ρ, sr, pp⟩ => ?_⟩
  refine wpAny_Call_Name_kw (ld_blt I hg hm b_sorted ?_ (by decide) (by decide))
  have go : tSet C (mL gKeys ms) σ H fun v H1 => ∃ ds o F1 ρ1, SR C.K F1 H1 σ ρ1 ∧ rSet C.K F1 H1 σ ρ1 ρ H v ds ∧ gOnce ds = some o ∧ PostE C (rO C.K) σ ρ1 F1 H1 Q (.ok o ρ1) :=
    ⟨F, ρ, sr, pp.part fun ds ρ1 F1 H1 v e1 q1 g1 s1 r1 => by
      have q1 := q1.on stb_O g1
      obtain ⟨o, eo, q⟩ := lift_some q1
      exact ⟨ds, o, F1, ρ1, s1, r1, eo, q⟩⟩
  refine PyProof.Rows.callWith_builtin1 (thn ((pa_cons inner pa_nil he2).run pos pins s σ H (fun xs H2 => ∃ v, xs = [v] ∧ ∃ ds o F1 ρ1, SR C.K F1 H2 σ ρ1 ∧ rSet C.K F1 H2 σ ρ1 ρ H v ds ∧ gOnce ds = some o ∧ PostE C (rO C.K) σ ρ1 F1 H2 Q (.ok o ρ1)) I ?_) fun us s1 ⟨xs, H1, I1, r1, v, ex, ds, o, F1, ρ1, s1', rs, eo, q⟩ => ?_) he2 hpl
  · obtain ⟨F0, ρ0, sr0, p0⟩ := go
    exact ⟨F0, ρ0, sr0, by
      cases em : mL gKeys ms ρ0 with
      | ok a ρ' => rw [em] at p0; exact fun F' H' v g s r => ⟨v, rfl, p0 F' H' v g s r⟩
      | ex x ρ' => rw [em] at p0; exact p0
      | bad => rw [em] at p0; exact p0⟩
  · subst ex
    obtain ⟨u, rfl, ru⟩ := vals1 r1
    obtain ⟨a, L, rfl, hH, kt, h1, h2⟩ := rs
    cases ru
    unfold gOnce at eo
    split at eo <;> cases eo
    rename_i ok
    have sub := s1'.sub
    have hw : X.w = C.K.w := congrArg Kw.w hK
    rw [← hw] at hH
    rw [← hK] at h1
    refine sorted_dat I1 sub hu (fun E R k => coll_set hc I1 sub hH kt h1 h2 ok E R k) fun b ws hb dv => ?_
    exact Alloc.post (F' := F1) (H' := upd H1 b (.lst ws)) (v := .ref b) s1' (.lst hb (hK ▸ dv)) q
end
end Eg
namespace Eg
open PySem L2 PySem.W PySem.SeqAt PySem.Spec PyProof.Rows
def pairsD : List PyData → Option (List (PyData × PyData))
  | [] => some []
  | .tuple [k, d] :: ds => if keyT k = true then (pairsD ds).map ((k, d) :: ·) else none
  | _ => none
def kFill (kvs ps : List (PyData × PyData)) : List (PyData × PyData) := ps.foldl (fun acc p => kPut acc p.1 p.2) kvs
inductive PR (K : Kw) (F : Hp) : List Addr → List KRow → List (PyData × PyData) → Prop
  | nil : PR K F [] [] []
  | cons {T b : Addr} {k d : PyData} {v : V} {Ts : List Addr} {L : List KRow} {ps : List (PyData × PyData)} : keyT k = true → SqT K F T [.ref b, v] → DV K F (.ref b) k → DV K F v d → PR K F Ts L ps → PR K F (T :: Ts) ((nk k, b, v) :: L) ((k, d) :: ps)
theorem PR.of {K : Kw} {F : Hp} : ∀ {vs : List V} {ds : List PyData} {ps : List (PyData × PyData)}, DVs K F vs ds → pairsD ds = some ps → ∃ Ts L, PR K F Ts L ps ∧ vs = Ts.map V.ref
  | _, _, _, .nil, e => by cases e; exact ⟨[], [], .nil, rfl⟩
  | _, _, _, .cons (d := d0) h t, e => by
    match d0, h, e with
    | .tuple [k, d], h, e =>
      simp only [pairsD] at e
      split at e
      · rename_i kt
        cases e2 : pairsD _ with
        | none => rw [e2] at e; cases e
        | some ps =>
          rw [e2] at e
          cases e
          obtain ⟨Ts, L, r, ev⟩ := PR.of t e2
          cases h with
          | tup h1 h2 =>
            cases h2 with
            | cons a1 a2 =>
              cases a2 with
              | cons a3 a4 =>
                cases a4
                obtain ⟨b, rfl⟩ := dv_tup a1 kt
                exact ⟨_ :: Ts, _ :: L, .cons kt h1 a1 a3 r, by rw [List.map_cons, ev]⟩
      · cases e
theorem PR.len {K : Kw} {F : Hp} : ∀ {Ts : List Addr} {L : List KRow} {ps : List (PyData × PyData)}, PR K F Ts L ps → Ts.length = ps.length ∧ L.length = ps.length
  | _, _, _, .nil => ⟨rfl, rfl⟩
  | _, _, _, .cons _ _ _ _ t => by
    obtain ⟨a, b⟩ := PR.len t
    simp only [List.length_cons, a, b, and_self]
section
variable [Tbs] {X : Cx} {C : Ct} {e : Expr} {pos p : Pos}
theorem PR.heap {pins : List (Addr × Obj)} {σ : L2.St} {F H : Hp} {s : Shared} (I : Inv X pins σ H s) (sub : Same F H) : ∀ {Ts : List Addr} {L : List KRow} {ps : List (PyData × PyData)}, PR X.KW F Ts L ps →
    ∃ xs : List HRow, Paired RowR L xs ∧ (∀ (j : Nat) (x : HRow), xs[j]? = some x → ∃ T, Ts[j]? = some T ∧ s.heap.IsTuple T #[.ref x.2.1, x.2.2]) ∧ ∀ x ∈ xs, (nestedKind X.prog X.w).is s.heap x.1 x.2.1
  | _, _, _, .nil => ⟨[], .nil, fun j x h => by simp at h, fun _ h => nomatch h⟩
  | _, _, _, .cons (T := T) (b := b) (k := k) (v := v) kt hT hk hd t => by
    obtain ⟨xs, r, q, ks⟩ := PR.heap I sub t
    obtain ⟨its, rv, pl, _⟩ := I.tuple (sub.sqT hT)
    cases rv with
    | cons r1 rv =>
      cases rv with
      | cons r2 rv =>
        cases rv
        rename_i u1 u2
        cases r1
        obtain ⟨kb, kd, _⟩ := keyT_at kt
        refine ⟨(nk k, b, u2) :: xs, .cons ⟨rfl, rfl, r2⟩ r, fun j x h => ?_, fun x hx => ?_⟩
        · cases j with
          | zero => cases h; exact ⟨T, rfl, pl⟩
          | succ j => exact q j x (by simpa using h)
        · rcases List.mem_cons.mp hx with z | hx
          · rw [z]; exact key_at I (DV.mono sub hk) kb kd
          · exact ks x hx
end
end Eg
namespace Eg
open PySem L2 PySem.W PySem.SeqAt
section
variable {ρ : Rho}
theorem v_dck (kvs : List (PyData × PyData)) : dctK (some (some (.kd kvs))) = some kvs := rfl
def kputO (x : Option (Option OD)) (i : Nat) (d kd : PyData) : M Out := fun ρ => match x with
  | some (some (.kd kvs)) => if keyT kd = true ∧ kvs.length < sizeLine then .ok .nx (ρ.set i (some (.kd (kPut kvs kd d)))) else .bad
  | _ => .bad
theorem v_kput (i : Nat) (mv mk : M PyData) : sKPut i mv mk ρ = (mv ρ).go fun d => mHas i (mk.bind fun kd ρ => kputO ρ[i]? i d kd ρ) := by
  refine congrArg (Res.go (mv ρ)) (funext fun d => congrArg (mHas i) (funext fun r => congrArg (Res.go (mk r)) (funext fun a => funext fun r2 => ?_)))
  unfold kputO
  cases r2[i]? with
  | none => rfl
  | some o => cases o with
    | none => rfl
    | some o => cases o <;> rfl
theorem v_kputO {kvs : List (PyData × PyData)} {i : Nat} {d kd : PyData} (h : keyT kd = true) (l : kvs.length < sizeLine) : kputO (some (some (.kd kvs))) i d kd ρ = .ok .nx (ρ.set i (some (.kd (kPut kvs kd d)))) := if_pos ⟨h, l⟩
def kcO (x : Option (List (PyData × PyData))) (g : List (PyData × PyData) → Option OD) : M OD := fun ρ => Res.opt (x.bind g) ρ
theorem v_kcall (i : Nat) (g : List (PyData × PyData) → Option OD) : mKCall i g ρ = kcO (dctK ρ[i]?) g ρ := by
  unfold mKCall kcO
  cases (dctK ρ[i]?).bind g <;> rfl
theorem v_kcO (kvs : List (PyData × PyData)) (g : List (PyData × PyData) → Option OD) : kcO (some kvs) g ρ = Res.opt (g kvs) ρ := rfl
theorem v_sset (ms : M (List Arg)) : mSSet ms ρ = (mL gKeys ms ρ).go fun ds => M.lift (gOnce ds) := rfl
end
section
variable [Tbs] {X : Cx} {C : Ct} {a b : Expr} {pos : Pos} {P : List Nat}
end
theorem kHas_put (kvs : List (PyData × PyData)) (k d x : PyData) : kHas (kPut kvs k d) x = (kHas kvs x || decide (nk k = nk x)) := by
  unfold kPut
  split
  · rename_i h
    have e : kHas (kRepl k d kvs) x = kHas kvs x := by
      unfold kRepl kHas
      rw [List.any_map]
      congr 1
      funext p
      by_cases q : nk p.1 = nk k <;> simp [q]
    rw [e]
    by_cases q : nk k = nk x
    · unfold kHas at h ⊢
      simp only [q] at h
      simp [h]
    · simp [q]
  · unfold kHas
    rw [List.any_append]
    simp
theorem kPut_len (kvs : List (PyData × PyData)) (k d : PyData) : (kPut kvs k d).length ≤ kvs.length + 1 := by
  unfold kPut kRepl
  split <;> simp
theorem kFill_len : ∀ (ps kvs : List (PyData × PyData)), (kFill kvs ps).length ≤ kvs.length + ps.length
  | [], kvs => Nat.le_refl _
  | p :: ps, kvs => by
    have h1 := kFill_len ps (kPut kvs p.1 p.2)
    have h2 := kPut_len kvs p.1 p.2
    rw [List.length_cons]
    show (kFill (kPut kvs p.1 p.2) ps).length ≤ _
    omega
theorem kHas_fill (x : PyData) : ∀ (ps kvs : List (PyData × PyData)), kHas (kFill kvs ps) x = (kHas kvs x || kHas ps x)
  | [], kvs => by simp [kFill, kHas]
  | p :: ps, kvs => by
    show kHas (kFill (kPut kvs p.1 p.2) ps) x = _
    rw [kHas_fill x ps, kHas_put]
    simp [kHas, Bool.or_assoc]
section
variable {α : Type} {src : M (List PyData)} {t : Tgt} {mk mv : M PyData} {vs : List Nat} {ρ ρ0 : Rho}
end
end Eg
namespace Eg
open PySem L2 PySem.W PySem.SeqAt PySem.Spec PyProof.Rows
abbrev Cl (t i : Expr) (fs : List Expr) : Comprehension := ⟨t, i, fs, 0⟩
section
variable {P : Program} {w : World} {A : Around} {R : Result → Shared → Prop} {s : Shared} {kx vx tA iA tB iB : Expr} {fA fB : List Expr} {scope : Scope} {pos : Pos} {it : Value} {D : Addr} {env : Env}
end
end Eg
namespace Eg
open PySem L2 PySem.W PySem.SeqAt PySem.Spec PyProof.Rows
section
variable [Tbs] {X : Cx} {C : Ct} {kx vx tA iA tB iB : Expr} {fA fB : List Expr} {pos : Pos}
end
end Eg
namespace Eg
open PySem L2 PySem.W PySem.SeqAt
section
variable {α β : Type} {src src1 : M (List PyData)} {t t1 : Tgt} {mk mv : M PyData} {vs vs1 : List Nat} {ρ ρ0 : Rho}
theorem kFill_append (acc ps qs : List (PyData × PyData)) : kFill acc (ps ++ qs) = kFill (kFill acc ps) qs := by unfold kFill; rw [List.foldl_append]
end
end Eg
namespace Eg
open PySem L2 PySem.W PySem.SeqAt
section
variable [Tbs] {X : Cx}
end
end Eg
namespace Eg
open PySem L2 PySem.W PySem.SeqAt
section
variable [Tbs] {X : Cx} {C : Ct} {P : List Nat} {a b c : Expr} {pos : Pos}
end
section
variable {ρ : Rho}
end
end Eg
namespace Eg
open PySem L2 PySem.W PySem.Calls PySem.SeqAt PySem.Spec PyProof.Rows
structure OexG (K : PySem.W.Frag) (C : Addr) : Prop where
  base : ∃ (B newId initId : String) (bmB : List Value), ExcBaseFacts B newId initId bmB ∧ StoreFacts B bmB "object.__setattr__" "object" ∧ excOver K C bmB = true ∧ excInitIn K C bmB newId = true
  hd : PySem.W.hasDictIn K C = true
  sa : PySem.W.findIn K (.ref C) "__setattr__" = some (some (.builtin "object.__setattr__"))
  exC : PySem.W.subIn K (.ref C) (.type "BaseException") = some true
  tyC : PySem.W.typeIn K (.ref C) = some (.type "type")
  kC : PySem.W.keepIn K (.ref C) = true
section
open Builtin Builtin.ObjectAttr
variable {prog : Program} {w : World} {A : Around} {R : Result → Shared → Prop} {hp : Heap} {g : Array GenState} {d : Drawn} {t : Nat} {os : OsState} {K : PySem.W.Frag} {C x dx : Addr} {fv : Array Value} {name : Str} {tk : Tok} {v : Value} {m0 : Str → Option Value} {nl : List Str}
theorem OexG.cls (T : OexG K C) (X : K.In hp) : ∃ cd : ClassData, cd.hasDict = true ∧ PySem.W.Looks (model prog w) hp (classData C) cd := by
  obtain ⟨_, _, _, _, _, _, o1, _⟩ := T.base
  obtain ⟨cd, hcd, _⟩ := any_some o1
  have q := T.hd
  unfold PySem.W.hasDictIn at q
  rw [hcd] at q
  exact ⟨cd, by simpa using q, PySem.W.looks_clsIn X hcd⟩
theorem osaNew (T : OexG K C) (X : K.In hp) (hx : hp.get? x = some { cls := .ref C, data := .fields fv }) (no : PySem.W.findIn K (.ref C) name = some none)
    (go : ∀ h2 n2 d2, (∀ b o, b ≠ x → hp.get? b = some o → h2.get? b = some o) → hp.objs.size ≤ d2 → d2 ≠ x → h2.get? x = some { cls := .ref C, dict := some d2, data := .fields fv } → h2.Ns1 d2 (fun y => if y = name then some v else none) → R (.ok (.ret .none)) ⟨h2, g, d, n2, os⟩) :
    codeAny (model prog w) A (.call (.builtin "object.__setattr__") ⟨[.ref x, .str name tk, v], []⟩) R ⟨hp, g, d, t, os⟩ := by
  obtain ⟨B, ni, ii, bm, FB, SF, o1, o2⟩ := T.base
  have I : PySem.W.InstAt hp x { cls := .ref C, data := .fields fv } C none := ⟨hx, rfl, rfl, trivial⟩
  refine osa_openX (s := ⟨hp, g, d, t, os⟩) SF X I o1 (by unfold takerIn; rw [no]; rfl) fun b => ?_
  obtain ⟨cd, hh, L⟩ := OexG.cls (prog := prog) (w := w) T X
  have fresh : x ≠ hp.objs.size := Nat.ne_of_lt (Heap.lt_size hx)
  obtain ⟨nm, bs, mro, ns, qn, hdct, sn, sb, ab, col, del⟩ := cd
  dsimp only at hh
  subst hh
  show wpAny _ _ (storeInOwnDict (.ref x) (.ref C) (.str name tk) name v b) _ _ _
  unfold storeInOwnDict ownDictForStores
  repeat (first | with_reducible refine PySem.HandSPX.store_in_new ?_ ?_ | with_reducible refine wpAny_loadPart_at hx ?_ | with_reducible refine L.at ?_ | wp_step)
  · exact ⟨_, #[], _, (Heap.get?_update_ne _ _ _ _ fresh.symm).trans (Heap.get?_push_at rfl rfl), rfl, fun e he => absurd he (by simp), fun _ => rfl⟩
  · intro h2 n2 hn bt
    have up := Heap.get?_push_of_some { cls := .type "dict", data := .dict #[] } hx
    exact go h2 n2 hp.objs.size (fun c o hc ho => (bt.2 c (Nat.ne_of_lt (Heap.lt_size ho))).trans ((Heap.get?_update_ne _ _ _ _ hc).trans (Heap.get?_push_of_some _ ho))) (Nat.le_refl _) fresh.symm ((bt.2 x fresh).trans (Heap.get?_update_self _ up rfl)) hn
theorem osaOld (T : OexG K C) (X : K.In hp) (hx : hp.get? x = some { cls := .ref C, dict := some dx, data := .fields fv }) (hns : hp.Ns1 dx m0) (hw : Within m0 nl) (hz : nl.length ≤ 1000) (no : PySem.W.findIn K (.ref C) name = some none)
    (go : ∀ h2 n2, (∀ b o, b ≠ dx → hp.get? b = some o → h2.get? b = some o) → h2.Ns1 dx (fun y => if y = name then some v else m0 y) → R (.ok (.ret .none)) ⟨h2, g, d, n2, os⟩) :
    codeAny (model prog w) A (.call (.builtin "object.__setattr__") ⟨[.ref x, .str name tk, v], []⟩) R ⟨hp, g, d, t, os⟩ := by
  obtain ⟨B, ni, ii, bm, FB, SF, o1, o2⟩ := T.base
  obtain ⟨oD, _, _, hoD, _, _⟩ := hns.count hw
  have I : PySem.W.InstAt hp x { cls := .ref C, dict := some dx, data := .fields fv } C (some oD) := ⟨hx, rfl, rfl, hoD⟩
  refine osa_openX (s := ⟨hp, g, d, t, os⟩) SF X I o1 (by unfold takerIn; rw [no]; rfl) fun b => ?_
  obtain ⟨cd, hh, L⟩ := OexG.cls (prog := prog) (w := w) T X
  obtain ⟨nm, bs, mro, ns, qn, hdct, sn, sb, ab, col, del⟩ := cd
  dsimp only at hh
  subst hh
  show wpAny _ _ (storeInOwnDict (.ref x) (.ref C) (.str name tk) name v b) _ _ _
  unfold storeInOwnDict ownDictForStores
  repeat (first | with_reducible refine PySem.OEX.store_in_old hns hw hz ?_ | with_reducible refine wpAny_loadPart_at hx ?_ | with_reducible refine L.at ?_ | wp_step)
  intro h2 n2 hn bt
  exact go h2 n2 (fun c o hc ho => (bt.2 c hc).trans ho) hn
end
end Eg
namespace Eg
open PySem L2 PySem.W PySem.Calls PySem.SeqAt PySem.Spec PyProof.Rows
section
variable {X : Cx} {pins : List (Addr × Obj)} {σ : L2.St} {H : Hp} {s : Shared} {a C dx : Addr} {f : Str} {y : V} {u : Value} {fs : List (Str × V)} {Q : Unit → Shared → Prop} {E : Value → Shared → Prop}
theorem inv_dict {hp h2 : Heap} {g : Array GenState} {d : Drawn} {t n2 : Nat} {os : OsState} {t1 : Addr} (I : Inv X pins σ H ⟨hp, g, d, t, os⟩) (e : H a = some (exo a C none)) (ry : RelV y u) (kp : ∀ b o, b ≠ a → hp.get? b = some o → h2.get? b = some o) (dn : hp.objs.size ≤ dx) (ne : dx ≠ a)
    (hx : h2.get? a = some { cls := .ref C, dict := some dx, data := .fields #[.ref t1, .none, .none, .none, .bool false, .none] }) (hn : h2.Ns1 dx (fun z => if z = f then some u else none)) :
    H dx = none ∧ Inv X pins σ (upd (upd H dx (exd dx [(f, y)])) a (exo a C (some dx))) ⟨h2, g, d, n2, os⟩ := by
  have hd : H dx = none := I.hok.fresh dn
  have old : ∀ {b : Addr} {o : Obj}, hp.get? b = some o → b ≠ dx := fun q => Nat.ne_of_lt (Nat.lt_of_lt_of_le (Heap.lt_size q) dn)
  have off : ∀ {b : Addr}, H b = none → b ≠ a := fun n z => by rw [z, e] at n; cases n
  have same : ∀ {b : Addr}, b ≠ a → b ≠ dx → upd (upd H dx (exd dx [(f, y)])) a (exo a C (some dx)) b = H b := fun h1 h2 => by rw [upd_ne h1, upd_ne h2]
  have said : ∀ {b : Addr} {z : HO}, H b = some z → z ≠ exo a C none → upd (upd H dx (exd dx [(f, y)])) a (exo a C (some dx)) b = some z := fun q n => by
    rw [same (fun w => n (by rw [w, e] at q; exact (Option.some.inj q).symm)) (ne_of_none q hd)]; exact q
  refine ⟨hd, I.un (t' := n2) ⟨fun b o q n _ _ => kp b o (off n) q, fun b o q n _ _ => ⟨o.slots, kp b o (off n) q⟩, fun b o q n _ => by rw [same (off n) (old q)]; exact n, fun b o q _ => ?_, fun b xs q => said q (Ne.symm exo_tup), fun b o v q => said q (Ne.symm exo_frz), fun b ps q => ⟨#[], by rw [said q (Ne.symm exo_tbl)]; simp⟩⟩ fun b o q => ?_⟩
  · by_cases hb : b = a
    · subst hb; exact ⟨_, hx⟩
    · exact ⟨o, kp b o hb q⟩
  · by_cases hb : b = a
    · subst hb
      rw [upd_same] at q; cases q
      exact exo_ok hx
    rw [upd_ne hb] at q
    by_cases hc : b = dx
    · subst hc
      rw [upd_same] at q; cases q
      exact exd_ok hn (relO_put (fs := []) ry fun _ => trivial)
    rw [upd_ne hc] at q
    refine (I.hok b o q).stay (fun c v hc z => kp c v ?_ z) (fun c hc => said hc (Ne.symm exo_own)) fun c xs hc => said hc (Ne.symm exo_tup)
    rcases hc with hc | hc
    · rw [hc]; exact hb
    · exact at_ne e hc exo_own
theorem setNew (T : OexG X.K C) (I : Inv X pins σ H s) (e : H a = some (exo a C none)) (no : PySem.W.findIn X.K (.ref C) f = some none) (ry : RelV y u)
    (go : ∀ dx s2, H dx = none → dx ≠ a → Inv X pins σ (upd (upd H dx (exd dx [(f, y)])) a (exo a C (some dx))) s2 → Q () s2) : wpAny (model X.prog X.w) X.A (setAttr (.ref a) f u) Q E s := by
  obtain ⟨t1, ho⟩ := exo_at I.hok e
  obtain ⟨hp, g, d, t, os⟩ := s
  have J0 : PySem.W.InstAt hp a { cls := .ref C, dict := none, data := .fields #[.ref t1, .none, .none, .none, .bool false, .none] } C none := ⟨ho, rfl, rfl, trivial⟩
  refine PySem.W.set_plain (s := ⟨hp, g, d, t, os⟩) I.kIn J0 T.sa ?_
  exact osaNew T I.kIn ho no fun h2 n2 dx kp dn ne hx hn => let ⟨hd, J⟩ := inv_dict I e ry kp dn ne hx hn; go dx _ hd ne J
theorem setOld (T : OexG X.K C) (I : Inv X pins σ H s) (e : H a = some (exo a C (some dx))) (ed : H dx = some (exd dx fs)) (hl : fs.length ≤ 900) (no : PySem.W.findIn X.K (.ref C) f = some none) (ry : RelV y u)
    (go : ∀ s2, Inv X pins σ (upd H dx (exd dx ((f, y) :: fs))) s2 → Q () s2) : wpAny (model X.prog X.w) X.A (setAttr (.ref a) f u) Q E s := by
  obtain ⟨t1, ho⟩ := exo_at I.hok e
  obtain ⟨mA, hns, rel⟩ := exd_at I.hok ed
  have hw := within_of rel
  obtain ⟨hp, g, d, t, os⟩ := s
  have J0 : ∃ oD, PySem.W.InstAt hp a { cls := .ref C, dict := some dx, data := .fields #[.ref t1, .none, .none, .none, .bool false, .none] } C (some oD) := by
    obtain ⟨oD, _, _, hoD, _, _⟩ := hns.count hw
    exact ⟨oD, ho, rfl, rfl, hoD⟩
  obtain ⟨oD, J0⟩ := J0
  refine PySem.W.set_plain (s := ⟨hp, g, d, t, os⟩) I.kIn J0 T.sa ?_
  refine osaOld T I.kIn ho hns hw (by rw [List.length_map]; omega) no fun h2 n2 kp hn => go _ (I.write (t' := n2) (x := dx) (e := dx) (o := exd dx ((f, y) :: fs)) (by rw [ed]; exact trivial) (.inl rfl) kp ?_ (exd_ok hn (relO_put ry rel)))
  obtain ⟨o, _, _, eo, _⟩ := hn
  exact ⟨o, eo⟩
end
def tSetG (K : PySem.W.Frag) (f : Str) (to te : TE) : TS := fun D σ H => te σ H fun y H1 => to σ H1 fun x H2 => ∃ a C : Addr, x = .ref a ∧ OexG K C ∧ PySem.W.findIn K (.ref C) f = some none ∧
  ((H2 a = some (exo a C none) ∧ ∀ d2, H2 d2 = none → d2 ≠ a → D.nx σ (upd (upd H2 d2 (exd d2 [(f, y)])) a (exo a C (some d2)))) ∨
    ∃ (d2 : Addr) (gs : List (Str × V)), H2 a = some (exo a C (some d2)) ∧ H2 d2 = some (exd d2 gs) ∧ gs.length ≤ 900 ∧ D.nx σ (upd H2 d2 (exd d2 ((f, y) :: gs))))
section
variable {X : Cx} {o e : Expr} {es : List Expr} {to te : TE} {ta : TA} {f : Str} {p q pos : Pos}
theorem ps_setG (ho : PE X o to) (he : PE X e te) (hs : swapsWith e (some (.Attribute o f q)) pos.line X.env = pure false := by rfl) : PS X (.Assign [.Attribute o f q] e pos) (tSetG X.K f to te) :=
  ⟨fun pins s σ H D I h => plainObj_wpAny_Assign_Attribute (thn (he.run pins s σ H _ I h) fun v s1 ⟨y, H1, I1, r1, q1⟩ => thn (ho.run pins s1 σ H1 _ I1 q1) fun u s2 ⟨x, H2, I2, r2, a, C, ex, T, no, z⟩ => by
    subst ex
    obtain rfl : u = Value.ref a := r2
    rcases z with ⟨ea, z⟩ | ⟨d2, gs, ea, ed, hl, z⟩
    · exact setNew T I2 ea no r1 fun d2 s3 n ne J => ⟨σ, _, J, z d2 n ne⟩
    · exact setOld T I2 ea ed hl no r1 fun s3 J => ⟨σ, _, J, z⟩) hs⟩
theorem pmk_oexG {CX : CXT} {x : Str} {C fI : Addr} {k : Nat} {fd : FuncData} {ps : List Str} {sp : Sp} (T : OexG X.K C) (iC : PySem.W.findIn X.K (.ref C) "__init__" = some (some (.ref fI))) (tI : PySem.W.typeIn X.K (.ref fI) = some (.type "function"))
    (Fi : FnOk X.prog X.w X.K X.mg X.base CX k fI fd ps sp) (hr : Room (k + 1) X.A) (hb : Binds X.K fd ps []) (hx : Passes CX X (fun _ _ _ => False)) (hg : Gl X x) (hm : X.mg x = some (.ref C)) (ha : PA X (e :: es) ta)
    (hdb : (x == ("__debug__" : Str)) = false := by decide) (he : starEach (e :: es) X.env = (false, eval e X.env) :: starEach es X.env := by rfl) (hpl : (backTo pos (starEach es X.env)).any (·.1) = false := by rfl) :
    PMk X (.Call (.Name x p) (e :: es) [] pos) (tMkO C sp [] ta) := by
  intro pins s σ H Q I h
  refine wpAny_Call_Name_kw (ld_glob I hg hm ?_ hdb)
  refine PySem.W.callWith_K (h₀ := X.base) I.ok.mod.kin T.kC (thn (ha.run pos pins s σ H _ I h) fun us s1 ⟨vs, H1, I1, r1, sz, q1⟩ => ⟨I1.kIn, ?_⟩) he hpl
  obtain ⟨B, nw, ini, bm, FB, SF, o1, o2⟩ := T.base
  obtain ⟨nm, N, qn, bs, mro, hdct, sn, sub, ab, col, dd, k0, k1, k2, k3, k5, hC, hT⟩ := excInit_of I1.kIn o2
  show wpAny _ _ (call (.ref C) us) _ _ _
  obtain ⟨hp, g, dr, tk, os⟩ := s1
  have up : hp.objs.size ≤ hp.objs.size + 1 := Nat.le_succ _
  have new : H1 (hp.objs.size + 1) = none := I1.hok.fresh up
  have spec := q1 (hp.objs.size + 1) new
  rw [List.append_nil] at spec
  have kk : ∀ b o, hp.get? b = some o → ((hp.push (PySem.W.kdv_tup us)).push (PySem.HandSPX.excO C hp.objs.size)).get? b = some o := fun _ _ w => Heap.get?_push_of_some _ (Heap.get?_push_of_some _ w)
  have there : ((hp.push (PySem.W.kdv_tup us)).push (PySem.HandSPX.excO C hp.objs.size)).get? (hp.objs.size + 1) = some (PySem.HandSPX.excO C hp.objs.size) := by heap_get
  have I2 := I1.laid (t' := tk) (a := hp.objs.size + 1) (o := exo (hp.objs.size + 1) C none) (h' := (hp.push (PySem.W.kdv_tup us)).push (PySem.HandSPX.excO C hp.objs.size)) kk up (exo_ok there)
  have r2 : Vals (V.ref (hp.objs.size + 1) :: vs) (Value.ref (hp.objs.size + 1) :: us) := .cons rfl r1
  have len : (Value.ref (hp.objs.size + 1) :: us).length = ps.length := by rw [← r2.length]; exact Fi.len _ _ _ _ spec
  have bind := hb ⟨(hp.push (PySem.W.kdv_tup us)).push (PySem.HandSPX.excO C hp.objs.size), g, dr, tk, os⟩ (Value.ref (hp.objs.size + 1) :: us) I2.kIn (by rw [List.append_nil]; exact len)
  rw [List.append_nil] at bind
  have few : us.length ≤ sizeLine := by
    rw [← Paired.length r1, sizeLine_eq]; omega
  have run := Fi.run _ X.stack _ _ ⟨Value.ref (hp.objs.size + 1) :: us, []⟩ _ _ _ (fun _ _ _ => False) (hr.make C us []) (I2.env0.make C us []) bind r2 spec
  refine wpAny_call (PySem.HandSPX.call_own FB hT hC (PySem.W.looks_findIn I1.kIn iC) (fun self => PySem.W.bind_fn I1.kIn self tI) few (codeAny_mono run fun r s3 w => ?_))
  cases r with
  | error er => exact hx pins σ _ _ er s3 I2 w
  | ok fl =>
    cases fl with
    | ret u =>
      obtain ⟨v, H2, os2, bare2, un2, hok2, rv, ev, d, fs, ea, ed, hd1, z⟩ := w
      subst ev
      obtain ⟨h2, g2, d2, t2, os3⟩ := s3
      exact ⟨rv, mk_end (raises_own T.exC T.tyC) I1 up kk un2 hok2 os2 bare2 ea ed hd1 z⟩
    | next => exact False.elim w
    | brk => exact False.elim w
    | cont => exact False.elim w
end
end Eg
namespace Eg
open PySem L2 PySem.W PySem.SeqAt PySem.Spec PyProof.Rows
def IniSp (K : PySem.W.Frag) (C : Addr) (fs : List Str) : Sp := fun vs H Q _ => ∃ (a : Addr) (ws : List V), vs = .ref a :: ws ∧ ws.length = fs.length ∧ H a = some (exo a C none) ∧
  ∀ dx H3, H dx = none → dx ≠ a → H3 a = some (exo a C (some dx)) → H3 dx = some (exd dx (fs.zip ws).reverse) → (∀ b, b ≠ a → b ≠ dx → H3 b = H b) → Q .non H3
section
variable {P : Program} {w : World} {K : PySem.W.Frag} {mg : Str → Option Value} {base : Heap} {k : Nat}
theorem ini1 {x qual s0 p1 f1 : Str} {st : Stmt} {f C : Addr} {fd : FuncData} {q0 q1 q2 q3 : Pos} (F : Fun K x qual st f fd) (S : FnScope [s0, p1] [s0, p1] (defScope st)) (T : OexG K C)
    (n1 : PySem.W.findIn K (.ref C) f1 = some none)
    (hb : defBody st = [.Assign [.Attribute (.Name s0 q0) f1 q1] (.Name p1 q2) q3] := by rfl)
    (l0 : (defScope st).names.lookup s0 = some .local := by rfl) (l1 : (defScope st).names.lookup p1 = some .local := by rfl)
    (d0 : (s0 == ("__debug__" : Str)) = false := by decide) (c0 : (s0 == ("__classdict__" : Str)) = false := by decide) (d1 : (p1 == ("__debug__" : Str)) = false := by decide) (c1 : (p1 == ("__classdict__" : Str)) = false := by decide)
    (hs : ∀ (X : Cx) (l : Nat), swapsWith (.Name p1 q2) (some (.Attribute (.Name s0 q0) f1 q1)) l X.env = pure false := by intros; rfl) :
    FnOk P w K mg base (L2.CX P w) (k + 1) f fd [s0, p1] (IniSp K C [f1]) := by
  refine F.okX S (fun vs H Q E ⟨a, ws, e, l, _⟩ => by rw [e, List.length_cons, l]; rfl) fun cdv A outer s H vs Q E hr ⟨a, ws, ev, lw, ea, q⟩ => ⟨tSetG K f1 (tVar 0) (tVar 1), ?_, ?_⟩
  · rw [hb]
    refine pss_one (ps_setG (pe_var (i := 0) rfl (Or.inl l0) d0 c0) (pe_var (i := 1) rfl (Or.inl l1) d1 c1) ?_)
    exact hs _ _
  · subst ev
    match ws, lw with
    | [w1], _ =>
      refine ⟨w1, rfl, .ref a, rfl, a, C, rfl, T, n1, .inl ⟨ea, fun dx hd ne => ?_⟩⟩
      exact q dx _ hd ne upd_same (by rw [upd_ne ne, upd_same]; rfl) fun b hb1 hb2 => by rw [upd_ne hb1, upd_ne hb2]
end
end Eg
namespace Eg
open PySem L2 PySem.W PySem.SeqAt PySem.Spec PyProof.Rows
def XRof (K : Kw) : Hp → Hp → Value → Option Addr → Xc → Prop := fun F' _ cls d x => ∃ (Cl dd : Addr) (vs : List V), K.mg x.cls = some (.ref Cl) ∧ cls = .ref Cl ∧ d = some dd ∧ F' dd = some (.xd ((x.flds.map (·.1)).zip vs).reverse) ∧ DVs K F' vs (x.flds.map (·.2))
def sRaise (nm : Str) (fs : List Str) (ms : M (List Arg)) : M Out := ms.bind fun as => fun ρ => match fixL as with
  | some ds => if ds.length = fs.length then .ex ⟨nm, fs.zip ds⟩ ρ else .bad
  | none => .bad
section
variable [Tbs] {X : Cx} {C : Ct} {P : List Nat} {e : Expr} {es : List Expr} {p pos pos' : Pos} {x : Str} {k : Nat} {Cl fI : Addr} {fd : FuncData} {ps fs : List Str} {ms : M (List Arg)}
theorem s_raise (hc : X.calm = true) (tk : Takes X C.W) (hXR : ∀ F' H' cls d y, y.cls = x → XRof C.K F' H' cls d y → C.XR F' H' cls d y) (T : OexG X.K Cl) (iC : PySem.W.findIn X.K (.ref Cl) "__init__" = some (some (.ref fI))) (tI : PySem.W.typeIn X.K (.ref fI) = some (.type "function"))
    (F1 : FnOk X.prog X.w X.K X.mg X.base (L2.CX X.prog X.w) k fI fd ps (IniSp X.K Cl fs)) (hr : Room (k + 1) X.A) (hb : Binds X.K fd ps []) (hg : Gl X x) (hm : X.mg x = some (.ref Cl)) (ha : PA X (e :: es) (tL C ms)) (hl : (e :: es).length = fs.length) (hl2 : fs.length ≤ 1000)
    (hll : ∀ ρ as ρ', ms ρ = .ok as ρ' → as.length = fs.length)
    (hK : (⟨X.K, X.w, X.mg, none, none⟩ : Kw) = C.K := by rfl) (hdb : (x == ("__debug__" : Str)) = false := by decide) (he : starEach (e :: es) X.env = (false, eval e X.env) :: starEach es X.env := by rfl) (hpl : (backTo pos (starEach es X.env)).any (·.1) = false := by rfl) :
    PS X (.Raise (some (.Call (.Name x p) (e :: es) [] pos)) none pos') (tS C P (sRaise x fs ms)) := by
  refine ⟨fun pins s σ H D I ⟨F, ρ, sr, q⟩ => (ps_raise hc tk (pmk_oexG T iC tI F1 hr hb passL hg hm ha hdb he hpl)).run pins s σ H D I ?_⟩
  unfold sRaise M.bind at q
  refine ⟨F, ρ, sr, ?_⟩
  cases e1 : ms ρ with
  | bad => rw [e1] at q; exact q
  | ex x ρ' => rw [e1] at q; exact fun F' H' cls d g s r => q F' H' σ cls d g s Pres.refl r
  | ok as ρ1 =>
  simp only [e1] at q
  intro F1' H1 vs g1 s1 r1
  cases e2 : fixL as with
  | none => simp only [e2] at q; exact q.elim
  | some ds =>
  simp only [e2] at q
  have hm' : C.K.mg x = some (.ref Cl) := by rw [← hK]; exact hm
  have lv : vs.length = fs.length := by rw [r1.len]; exact hll ρ as ρ1 e1
  have dv : DVs C.K F1' vs ds := r1.fixed e2
  have ld : ds.length = fs.length := by rw [← dv.len]; exact lv
  rw [if_pos ld] at q
  have m1 : (fs.zip ds).map (·.1) = fs := List.map_fst_zip (by omega)
  have m2 : (fs.zip ds).map (·.2) = ds := List.map_snd_zip (by omega)
  refine ⟨by omega, fun a na => ⟨a, vs, by rw [List.append_nil], lv, upd_same, fun dx H3 hd ne h1 h2 h3 => ⟨rfl, dx, (fs.zip vs).reverse, h1, h2, ?_, ?_⟩⟩⟩
  · rw [upd_ne ne] at hd; exact hd
  · have hdx : H1 dx = none := by rw [upd_ne ne] at hd; exact hd
    have eH : upd (del H3 a) dx (.xd (fs.zip vs).reverse) = upd H1 dx (.xd (fs.zip vs).reverse) := by
      funext b
      by_cases hb1 : b = dx
      · rw [hb1, upd_same, upd_same]
      · rw [upd_ne hb1, upd_ne hb1]
        by_cases hb2 : b = a
        · rw [hb2, del_same, na]
        · rw [del_ne hb2, h3 b hb2 hb1, upd_ne hb2]
    rw [eH]
    have fp : F1' dx = none := by
      cases z : F1' dx with
      | none => rfl
      | some o => rw [s1.sub dx o z] at hdx; cases hdx
    have no : ¬ own σ ρ1 dx := fun y => by
      obtain ⟨_, u, h2⟩ := own.at s1 y
      rw [hdx] at h2; cases h2
    have gf := g1.trans (Grow.fresh (ow := own σ ρ1) (F := F1') (o := .xd (fs.zip vs).reverse) hdx)
    have sf := s1.fresh (o := .xd (fs.zip vs).reverse) hdx
    exact q (upd F1' dx (.xd (fs.zip vs).reverse)) _ σ (.ref Cl) (some dx) (Grow.fix fp gf (g1.back hdx)) (sf.fix no upd_same fp (fun _ z => by cases z)) Pres.refl
      (hXR _ _ _ _ _ rfl ⟨Cl, dx, vs, hm', rfl, rfl, by show upd F1' dx _ dx = _; rw [upd_same, m1], by
        show DVs C.K _ vs ((fs.zip ds).map (·.2))
        rw [m2]
        exact dv.mono (fun b u h => by rw [upd_ne (ne_of_none h fp)]; exact h)⟩)
end
end Eg
namespace Eg
open PySem L2 PySem.W PySem.SeqAt PySem.Spec PyProof.Rows
section
variable [Tbs] {X : Cx} {C : Ct} {P : List Nat} {x : Str} {c : Value} {body suite : List Stmt} {b₀ : Stmt} {np pos pos' : Pos} {mb ms : M Out} {hit : Xc → Bool}
end
section
variable {ρ : Rho}
def raiseK (nm : Str) (fs : List Str) (as : List Arg) : M Out := fun ρ => match fixL as with
  | some ds => if ds.length = fs.length then .ex ⟨nm, fs.zip ds⟩ ρ else .bad
  | none => .bad
theorem v_raise (nm : Str) (fs : List Str) (ms : M (List Arg)) : sRaise nm fs ms ρ = (ms ρ).go (raiseK nm fs) := rfl
theorem v_raisek (nm : Str) (fs : List Str) (as : List Arg) {ds : List PyData} (h : fixL as = some ds) (l : ds.length = fs.length) : raiseK nm fs as ρ = .ex ⟨nm, fs.zip ds⟩ ρ := by unfold raiseK; rw [h]; exact if_pos l
end
end Eg
namespace Eg
open PySem L2 PySem.W PySem.SeqAt PySem.Spec PyProof.Rows
section
variable [Tbs] {K K' : Kw} {F H : Hp}
mutual
theorem DV.to (e : K.fr = K'.fr) : ∀ {v : V} {d : PyData}, DV K H v d → DV K' H v d
  | _, _, .non => .non
  | _, _, .bl b => .bl b
  | _, _, .int i => .int i
  | _, _, .str x => .str x
  | _, _, .lst h t => .lst h (DVs.to e t)
  | _, _, .tup h t => .tup (e ▸ h) (DVs.to e t)
theorem DVs.to (e : K.fr = K'.fr) : ∀ {vs : List V} {ds : List PyData}, DVs K H vs ds → DVs K' H vs ds
  | _, _, .nil => .nil
  | _, _, .cons h t => .cons (DV.to e h) (DVs.to e t)
end
theorem KD.to (e : K.fr = K'.fr) : ∀ {es : List (Key × V)} {kvs : List (Key × PyData)}, KD K H es kvs → KD K' H es kvs
  | _, _, .nil => .nil
  | _, _, .cons h t => .cons (h.to e) (KD.to e t)
theorem KN.to (e : K.fr = K'.fr) : ∀ {L : List KRow} {kvs : List (PyData × PyData)}, KN K H L kvs → KN K' H L kvs
  | _, _, .nil => .nil
  | _, _, .cons h0 h1 h2 h3 t => .cons h0 h1 (h2.to e) (h3.to e) (KN.to e t)
theorem SDs.to (e : K.fr = K'.fr) : ∀ {vs : List V} {os : List SD}, SDs K F vs os → SDs K' F vs os
  | _, _, .nil => .nil
  | _, _, .d h r => .d (h.to e) (SDs.to e r)
  | _, _, .t h1 h2 r => .t h1 (h2.to e) (SDs.to e r)
def isEn : OD → Bool
  | .en _ _ => true
  | _ => false
theorem OR.to (e : K.fr = K'.fr) (ew : K.w = K'.w) (el : K.lam = K'.lam) {v : V} {r : OD} (n : isEn r = false) (h : OR K F H v r) (em : K.mg = K'.mg := by first | rfl | assumption | (symm; assumption)) : OR K' F H v r := by
  cases r with
  | sh d => exact DV.to e h
  | sc ns => 
    obtain ⟨a, rfl, h⟩ := h
    exact ⟨a, rfl, e ▸ h⟩
  | ol xs => obtain ⟨a, vs, rfl, h1, h2, h3⟩ := h; exact ⟨a, vs, rfl, h1, h2, h3.to e⟩
  | od kvs => obtain ⟨a, vs, rfl, h1, h2, h3⟩ := h; exact ⟨a, vs, rfl, h1, h2, h3.to e⟩
  | kd kvs => obtain ⟨a, vs, rfl, h1, h2, h3⟩ := h; exact ⟨a, vs, rfl, h1, ew ▸ h2, h3.to e⟩
  | sd kvs => obtain ⟨a, vs, rfl, h1, h3⟩ := h; exact ⟨a, vs, rfl, h1, h3.to e⟩
  | sn kvs => obtain ⟨a, vs, rfl, h1, h3⟩ := h; exact ⟨a, vs, rfl, ew ▸ h1, h3.to e⟩
  | en _ _ => cases n
  | fn nm =>
    obtain ⟨f, h1, h2⟩ := h
    exact ⟨f, h1, em ▸ h2⟩
  | lam caps =>
    obtain ⟨li, h1, h2, h3, h4⟩ := h
    exact ⟨li, el ▸ h1, h2, h3, fun x hx => by
      obtain ⟨u, u1, u2⟩ := h4 x hx
      exact ⟨u, u1, u2.to e⟩⟩
  | ts os =>
    obtain ⟨a, vs, rfl, h1, h2⟩ := h
    exact ⟨a, vs, rfl, e ▸ h1, h2.to e⟩
def noEn (ρ : Rho) : Bool := ρ.all fun o => match o with
  | some r => !isEn r
  | none => true
theorem noEn_at {ρ : Rho} (h : noEn ρ = true) {i : Nat} {o : OD} (e : ρ[i]? = some (some o)) : isEn o = false := by
  have := List.all_eq_true.mp h (some o) (List.mem_of_getElem? e)
  simpa using this
theorem SR.to (e : K.fr = K'.fr) (ew : K.w = K'.w) (el : K.lam = K'.lam) {σ : L2.St} {ρ : Rho} (s : SR K F H σ ρ) (n : ∀ (i : Nat) (o : OD), ρ[i]? = some (some o) → isEn o = false) (em : K.mg = K'.mg := by first | rfl | assumption | (symm; assumption)) : SR K' F H σ ρ := ⟨s.sub, s.len, fun i o h => by
  obtain ⟨v, e1, e2⟩ := s.sl i o h
  exact ⟨v, e1, e2.to e ew el (n i o h) em⟩, s.sep, s.tb⟩
theorem SR.noEn {σ : L2.St} {ρ : Rho} (s : SR K F H σ ρ) (n : K.exn = none) {i : Nat} {o : OD} (h : ρ[i]? = some (some o)) : isEn o = false := by
  obtain ⟨v, _, e2⟩ := s.sl i o h
  cases o with
  | en nm flds => obtain ⟨a, Cl, dd, oe, vs, _, h1, _⟩ := e2; rw [n] at h1; cases h1
  | _ => rfl
theorem at_set {α : Type} {l : List α} {i j : Nat} {x y : α} (h : (l.set i x)[j]? = some y) : (i = j ∧ y = x) ∨ (i ≠ j ∧ l[j]? = some y) := by
  by_cases e : i = j
  · subst e
    left
    rw [List.getElem?_set] at h
    simp at h
    exact ⟨rfl, h.2.symm⟩
  · exact .inr ⟨e, by rw [List.getElem?_set_ne e] at h; exact h⟩
theorem SR.unset {σ : L2.St} {ρ : Rho} (s : SR K F H σ ρ) (i : Nat) : SR K F H (σ.set i none) (ρ.set i none) := by
  have go : ∀ {j : Nat} {o : OD}, (ρ.set i none)[j]? = some (some o) → i ≠ j ∧ ρ[j]? = some (some o) := fun {j o} h => by
    rcases at_set h with ⟨_, z⟩ | h
    · cases z
    · exact h
  refine ⟨s.sub, by rw [List.length_set, List.length_set]; exact s.len, fun j o h => ?_, fun j k o o' a ne h1 i1 h2 i2 h3 => ?_, s.tb⟩
  · obtain ⟨n, h⟩ := go h
    obtain ⟨v, e1, e2⟩ := s.sl j o h
    exact ⟨v, by rw [List.getElem?_set_ne n]; exact e1, e2⟩
  · obtain ⟨n1, h1⟩ := go h1
    obtain ⟨n2, h2⟩ := go h2
    rw [List.getElem?_set_ne n1] at h3
    rw [List.getElem?_set_ne n2]
    exact s.sep j k o o' a ne h1 i1 h2 i2 h3
theorem own.unset {σ : L2.St} {ρ : Rho} {i : Nat} {b : Addr} (h : own (σ.set i none) (ρ.set i none) b) : own σ ρ b := by
  obtain ⟨j, o, h1, h2, h3⟩ := h
  rcases at_set h1 with ⟨_, z⟩ | ⟨n, h1⟩
  · cases z
  · rw [List.getElem?_set_ne n] at h3
    exact ⟨j, o, h1, h2, h3⟩
theorem own.en {σ : L2.St} {ρ : Rho} {i : Nat} {v : V} {nm : Str} {fl : List (Str × PyData)} {b : Addr} (h : own (σ.set i (some v)) (ρ.set i (some (.en nm fl))) b) : own σ ρ b := by
  obtain ⟨j, o, h1, h2, h3⟩ := h
  rcases at_set h1 with ⟨_, z⟩ | ⟨n, h1⟩
  · cases z; cases h2
  · rw [List.getElem?_set_ne n] at h3
    exact ⟨j, o, h1, h2, h3⟩
theorem Grow.wide' {ow ow0 ow1 : Addr → Prop} {F1 H1 : Hp} (g : Grow ow ow1 F H F1 H1) (h : ∀ b, ow b → ow0 b) : Grow ow0 ow1 F H F1 H1 :=
  ⟨g.ext, fun b o e t n => g.keep b o e t fun z => n (h b z), fun b ps e n => g.kt b ps e fun z => n (h b z), fun b z => (g.new b z).imp id fun y => y.imp id (h b), fun b z => (g.ows b z).imp (h b) id⟩
end
def endAs (i : Nat) : Res Out → Res Out
  | .ok (.rt r) ρ2 => if (noEn (ρ2.set i none) && !isEn r) = true then .ok (.rt r) (ρ2.set i none) else .bad
  | .ok o ρ2 => if noEn (ρ2.set i none) = true then .ok o (ρ2.set i none) else .bad
  | _ => .bad
def sTryAs (i : Nat) (hit : Xc → Bool) (mb ms : M Out) : M Out := fun ρ => match mb ρ with
  | .ex x ρ1 => if hit x = true then endAs i (ms (ρ1.set i (some (.en x.cls x.flds)))) else .ex x ρ1
  | r => r
section
variable [Tbs] {X : Cx} {C : Ct} {P : List Nat} {x n : Str} {c : Value} {i : Nat} {body suite : List Stmt} {b₀ : Stmt} {np pos pos' : Pos} {mb ms : M Out} {hit : Xc → Bool}
end
end Eg
namespace Eg
open PySem L2 PySem.W PySem.SeqAt PySem.Spec PyProof.Rows
def mFld (i : Nat) (nms : List Str) (f : Str) : M PyData := fun ρ => match ρ[i]? with
  | some (some (.en nm flds)) => if nm ∈ nms ∧ (flds.map (·.1)).Nodup then Res.opt (flds.lookup f) ρ else .bad
  | _ => .bad
theorem look_zip {K : Kw} {F : Hp} {f : Str} : ∀ {flds : List (Str × PyData)} {vs : List V} {d : PyData}, DVs K F vs (flds.map (·.2)) → (flds.map (·.1)).Nodup → flds.lookup f = some d → ∃ v, (((flds.map (·.1)).zip vs).reverse).lookup f = some v ∧ DV K F v d
  | [], _, _, _, _, h => nomatch h
  | (n, e) :: flds, _, d, .cons (v := v) (vs := vs) hv t, nd, h => by
    rw [List.map_cons, List.nodup_cons] at nd
    rw [List.map_cons, List.zip_cons_cons, List.reverse_cons, List.lookup_append]
    by_cases q : f = n
    · subst q
      have : d = e := by simpa [List.lookup] using h.symm
      subst this
      have no : ((flds.map (·.1)).zip vs).reverse.lookup f = none := by
        rw [List.lookup_eq_none_iff]
        intro p hp
        have := List.mem_reverse.mp hp
        have m := (List.of_mem_zip (a := p.1) (b := p.2) this).1
        have ne : f ≠ p.1 := fun z => nd.1 (by rw [z]; exact m)
        simpa using ne
      exact ⟨v, by rw [no]; simp [List.lookup], hv⟩
    · have h' : flds.lookup f = some d := by
        rw [List.lookup_cons] at h
        have : (f == n) = false := by simpa using q
        rw [this] at h
        exact h
      obtain ⟨v', e1, e2⟩ := look_zip t nd.2 h'
      exact ⟨v', by rw [e1]; rfl, e2⟩
section
variable [Tbs] {X : Cx} {a : Addr} {oe : Obj} {pn : List (Addr × Obj)} {i : Nat} {n f : Str} {nms : List Str} {W : WX} {XR : Hp → Hp → Value → Option Addr → Xc → Prop} {p pos : Pos} {li : Option LamI}
theorem d_xf (hf : ∃ vs, oe.data = .fields vs) (hT : ∀ nm ∈ nms, ∀ Cl, X.mg nm = some (.ref Cl) → XfC X.K Cl ∧ PySem.W.findIn X.K (.ref Cl) f = some none) (hi : X.N[i]? = some n) (hv : Vis X.env.scope n)
    (hd : (n == ("__debug__" : Str)) = false := by decide) (hcd : (n == ("__classdict__" : Str)) = false := by decide) (hb : attributeBase (.Name n p) f X.env (eval (.Name n p) X.env) = eval (.Name n p) X.env := by rfl) :
    PE (X.suite a ((a, oe) :: pn)) (.Attribute (.Name n p) f pos) (tD ⟨⟨X.K, X.w, X.mg, some (a, oe), li⟩, W, XR⟩ (mFld i nms f)) := by
  refine ⟨fun pins s σ H Q I ⟨F, ρ, sr, q⟩ => ?_⟩
  unfold mFld at q
  cases e1 : ρ[i]? with
  | none => rw [e1] at q; exact q.elim
  | some o =>
    rw [e1] at q
    cases o with
    | none => exact q.elim
    | some o =>
      cases o with
      | en nm flds =>
        simp only at q
        split at q
        · rename_i cnd
          obtain ⟨v, hs, a', Cl, dd, oe', vs, rfl, he, hm, hz, hF, dv⟩ := sr.sl i _ e1
          cases he
          obtain ⟨T, hno⟩ := hT nm cnd.1 Cl hm
          cases e2 : flds.lookup f with
          | none => rw [e2] at q; exact q.elim
          | some d =>
            rw [e2] at q
            obtain ⟨v, lv, dvv⟩ := look_zip dv cnd.2 e2
            refine (pe_xf T hno hz hf (pe_var (X := X.suite a ((a, oe) :: pn)) (i := i) hi hv hd hcd) hb).run pins s σ H Q I ⟨_, hs, rfl, rfl, dd, _, v, rfl, sr.sub _ _ hF, lv, ?_⟩
            exact q F H v Grow.refl sr dvv
        · exact q.elim
      | _ => exact q.elim
end
section
variable {ρ : Rho}
def fldO (x : Option (Option OD)) (nms : List Str) (f : Str) : M PyData := fun ρ => match x with
  | some (some (.en nm flds)) => if nm ∈ nms ∧ (flds.map (·.1)).Nodup then Res.opt (flds.lookup f) ρ else .bad
  | _ => .bad
theorem v_fld (i : Nat) (nms : List Str) (f : Str) : mFld i nms f ρ = fldO ρ[i]? nms f ρ := rfl
theorem v_fldO {nm f : Str} {nms : List Str} {flds : List (Str × PyData)} (h : nm ∈ nms) (h2 : (flds.map (·.1)).Nodup) : fldO (some (some (.en nm flds))) nms f ρ = Res.opt (flds.lookup f) ρ := if_pos ⟨h, h2⟩
def tryAsK (i : Nat) (hit : Xc → Bool) (ms : M Out) : Res Out → Res Out
  | .ex x ρ1 => if hit x = true then endAs i (ms (ρ1.set i (some (.en x.cls x.flds)))) else .ex x ρ1
  | r => r
theorem v_tryAs (i : Nat) (hit : Xc → Bool) (mb ms : M Out) : sTryAs i hit mb ms ρ = tryAsK i hit ms (mb ρ) := by
  unfold sTryAs tryAsK
  cases mb ρ <;> rfl
theorem v_tryAsx (i : Nat) (hit : Xc → Bool) (ms : M Out) (x : Xc) (ρ1 : Rho) : tryAsK i hit ms (.ex x ρ1) = if hit x = true then endAs i (ms (ρ1.set i (some (.en x.cls x.flds)))) else .ex x ρ1 := rfl
end
end Eg
namespace Eg
open PySem L2 PySem.W PySem.SeqAt PySem.Spec PyProof.Rows
section
variable {K : PySem.W.Frag} {C : Addr} {B nw ini : String} {bm : List Value}
theorem oex_of (FB : ExcBaseFacts B nw ini bm) (SF : StoreFacts B bm "object.__setattr__" "object") (o1 : excOver K C bm = true) (o2 : excInitIn K C bm nw = true) (hd : PySem.W.hasDictIn K C = true) (sa : PySem.W.findIn K (.ref C) "__setattr__" = some (some (.builtin "object.__setattr__")))
    (sb : PySem.W.subIn K (.ref C) (.type "BaseException") = some true) (ty : PySem.W.typeIn K (.ref C) = some (.type "type")) (kp : PySem.W.keepIn K (.ref C) = true) : OexG K C :=
  ⟨⟨B, nw, ini, bm, FB, SF, o1, o2⟩, hd, sa, sb, ty, kp⟩
theorem exm_of {t : Value} {b : Bool} (o1 : excOver K C bm = true) (sb : PySem.W.subIn K (.ref C) (.type "BaseException") = some true) (ty : PySem.W.typeIn K (.ref C) = some (.type "type"))
    (s : PySem.W.subIn K t (.ref C) = some b) : PySem.W.exmOne K t (.ref C) = some b := by
  have hc : (PySem.W.clsIn K C).isSome = true := by
    obtain ⟨cd, h, _⟩ := any_some o1
    rw [h]; rfl
  unfold PySem.W.exmOne PySem.W.kitCls
  simp only [sb, ty, hc, s, Bool.true_and, beq_self_eq_true, if_true]
end
end Eg
namespace Eg
open PySem L2 PySem.W PySem.SeqAt PySem.Spec PyProof.Rows
end Eg
namespace Eg
open PySem L2 PySem.W PySem.SeqAt PySem.Spec PyProof.Rows
structure ExcK (K : PySem.W.Frag) (C fI : Addr) (fd : FuncData) (ps fs : List Str) : Prop where
  oex : OexG K C
  xf : XfC K C
  ini : PySem.W.findIn K (.ref C) "__init__" = some (some (.ref fI))
  ty : PySem.W.typeIn K (.ref fI) = some (.type "function")
  bind : Binds K fd ps []
  no : ∀ f ∈ fs, PySem.W.findIn K (.ref C) f = some none
  self : PySem.W.exmOne K (.ref C) (.ref C) = some true
def XRin (nms : List Str) (K : Kw) : Hp → Hp → Value → Option Addr → Xc → Prop := fun F H cls d y => y.cls ∈ nms ∧ XRof K F H cls d y
section
variable [Tbs] {X : Cx} {C : Ct} {P : List Nat} {e : Expr} {es : List Expr} {p pos pos' : Pos} {x : Str} {k : Nat} {Cl fI : Addr} {fd : FuncData} {ps fs : List Str} {ms : M (List Arg)}
theorem s_raiseK (E : ExcK X.K Cl fI fd ps fs) (F1 : FnOk X.prog X.w X.K X.mg X.base (L2.CX X.prog X.w) k fI fd ps (IniSp X.K Cl fs)) (hc : X.calm = true) (tk : Takes X C.W) (hXR : ∀ F' H' cls d y, y.cls = x → XRof C.K F' H' cls d y → C.XR F' H' cls d y) (hr : Room (k + 1) X.A) (hg : Gl X x) (hm : X.mg x = some (.ref Cl)) (ha : PA X (e :: es) (tL C ms))
    (hll : ∀ ρ as ρ', ms ρ = .ok as ρ' → as.length = fs.length) (hl : (e :: es).length = fs.length := by rfl) (hl2 : fs.length ≤ 1000 := by decide) (hK : (⟨X.K, X.w, X.mg, none, none⟩ : Kw) = C.K := by rfl)
    (hdb : (x == ("__debug__" : Str)) = false := by decide) (he : starEach (e :: es) X.env = (false, eval e X.env) :: starEach es X.env := by rfl) (hpl : (backTo pos (starEach es X.env)).any (·.1) = false := by rfl) :
    PS X (.Raise (some (.Call (.Name x p) (e :: es) [] pos)) none pos') (tS C P (sRaise x fs ms)) :=
  s_raise hc tk hXR E.oex E.ini E.ty F1 hr E.bind hg hm ha hl hl2 hll hK hdb he hpl
theorem raise_in {K : Kw} {x : Str} {nms : List Str} (hx : x ∈ nms) : ∀ (F H : Hp) (cls : Value) (d : Option Addr) (y : Xc), y.cls = x → XRof K F H cls d y → XRin nms K F H cls d y :=
  fun _ _ _ _ _ h r => ⟨h ▸ hx, r⟩
end
end Eg
namespace Eg
open PySem L2 PySem.W PySem.SeqAt PySem.Spec PyProof.Rows
def clsBody : Stmt → List Stmt
  | .ClassDef _ _ _ b _ _ _ _ _ _ _ => b
  | _ => []
section
variable {K : PySem.W.Frag} {C fI : Addr} {fd : FuncData} {ps fs : List Str} {mg : Str → Option Value}
theorem ll0 : ∀ (ρ : Rho) (as : List Arg) (ρ' : Rho), mNil ρ = .ok as ρ' → as.length = 0 := fun ρ as ρ' h => by
  cases h; rfl
theorem llS {ma : M Arg} {ms : M (List Arg)} {n : Nat} (h : ∀ (ρ : Rho) (as : List Arg) (ρ' : Rho), ms ρ = .ok as ρ' → as.length = n) : ∀ (ρ : Rho) (as : List Arg) (ρ' : Rho), mCons ma ms ρ = .ok as ρ' → as.length = n + 1 := fun ρ as ρ' q => by
  unfold mCons M.bind at q
  cases e1 : ma ρ with
  | bad => rw [e1] at q; cases q
  | ex x r => rw [e1] at q; cases q
  | ok a r =>
    simp only [e1] at q
    cases e2 : ms r with
    | bad => rw [e2] at q; cases q
    | ex x r => rw [e2] at q; cases q
    | ok bs r2 =>
      simp only [e2] at q
      cases q
      rw [List.length_cons, h _ _ _ e2]
variable {B nw in0 : String} {bm : List Value}
theorem exck_of (FB : ExcBaseFacts B nw in0 bm) (SF : StoreFacts B bm "object.__setattr__" "object") (o1 : PySem.W.excOver K C bm = true) (o2 : PySem.W.excInitIn K C bm nw = true) (sa : PySem.W.findIn K (.ref C) "__setattr__" = some (some (.builtin "object.__setattr__")))
    (sb : PySem.W.subIn K (.ref C) (.type "BaseException") = some true) (ty : PySem.W.typeIn K (.ref C) = some (.type "type")) (kp : PySem.W.keepIn K (.ref C) = true)
    (ga : PySem.W.findIn K (.ref C) "__getattribute__" = some (some (.builtin "BaseException.__getattribute__"))) (gg : PySem.W.findIn K (.ref C) "__getattr__" = some none) (hd : PySem.W.hasDictIn K C = true) (sf : PySem.W.subIn K (.ref C) (.ref C) = some true)
    (ini : PySem.W.findIn K (.ref C) "__init__" = some (some (.ref fI))) (ti : PySem.W.typeIn K (.ref fI) = some (.type "function")) (b : Binds K fd ps []) (no : ∀ f ∈ fs, PySem.W.findIn K (.ref C) f = some none) : ExcK K C fI fd ps fs :=
  ⟨oex_of FB SF o1 o2 hd sa sb ty kp, ⟨ga, gg, sb, hd⟩, ini, ti, b, no, exm_of o1 sb ty sf⟩
end
end Eg
namespace Eg
open PySem L2 PySem.W PySem.SeqAt PySem.Spec PyProof.Rows
section
variable [Tbs] {X : Cx} {C : Ct} {P : List Nat} {e e' o a b c : Expr} {pos apos : Pos}
end
section
variable {ρ : Rho}
end
end Eg
namespace Eg
open PySem L2 PySem.W PySem.SeqAt PySem.Spec PyProof.Rows
section
variable [Tbs] {X : Cx} {C : Ct} {x : Str} {v : V} {u : Value} {d : PyData} {pos : Pos} {K : Kw} {F : Hp}
theorem dv_const {a : Addr} {o : Option Addr} {its : Array Value} {n : Nat} {sl : Array (Option Value)} {xs : List V} {ds : List PyData} (l : K.fr.lookup a = some ⟨.type "tuple", o, .seq its n, sl⟩) (hs : its.size ≤ sizeLine) (hv : Vals xs its.toList) (hd : DVs K F xs ds) : DV K F (.ref a) (.tuple ds) :=
  .tup (.inr ⟨_, its, n, l, rfl, rfl, hs, hv⟩) hd
example {a : Addr} {o : Option Addr} {n : Nat} {t1 t2 : Tok} {sl : Array (Option Value)} (l : K.fr.lookup a = some ⟨.type "tuple", o, .seq #[.str "yes" t1, .str "no" t2] n, sl⟩) : ∀ F, DV K F (.ref a) (.tuple [.str "yes", .str "no"]) :=
  fun F => dv_const (xs := [.str "yes", .str "no"]) l (by simp [sizeLine]) (.cons ⟨_, rfl⟩ (.cons ⟨_, rfl⟩ .nil)) (.cons (.str _) (.cons (.str _) .nil))
end
section
variable [Tbs] {X : Cx}
end
end Eg
namespace Eg
open PySem L2 PySem.W PySem.SeqAt PySem.Spec PyProof.Rows
end Eg
namespace Eg
open PySem L2 PySem.W PySem.SeqAt PySem.Spec PyProof.Rows
section
variable [Tbs] {X : Cx}
end
section
variable [Tbs] {X : Cx} {C : Ct} {e o : Expr} {es : List Expr} {pos : Pos} {P : List Nat}
inductive ODs (K : Kw) (F H : Hp) : List V → List OD → Prop
  | nil : ODs K F H [] []
  | cons {v : V} {o : OD} {vs : List V} {os : List OD} : OR K F H v o → ODs K F H vs os → ODs K F H (v :: vs) (o :: os)
inductive FreshL (P : Addr → Prop) : List V → List OD → Prop
  | nil : FreshL P [] []
  | cons {v : V} {o : OD} {vs : List V} {os : List OD} : (o.isO = true → ∀ a, v = .ref a → P a ∧ ∀ q ∈ vs.zip os, q.2.isO = true → q.1 ≠ .ref a) → FreshL P vs os → FreshL P (v :: vs) (o :: os)
theorem FreshL.imp {P P' : Addr → Prop} (h : ∀ a, P a → P' a) : ∀ {vs : List V} {os : List OD}, FreshL P vs os → FreshL P' vs os
  | _, _, .nil => .nil
  | _, _, .cons h1 t => .cons (fun io a ea => ⟨h a (h1 io a ea).1, (h1 io a ea).2⟩) (FreshL.imp h t)
theorem FreshL.at {P : Addr → Prop} : ∀ {vs : List V} {os : List OD}, FreshL P vs os → ∀ q ∈ vs.zip os, q.2.isO = true → ∀ a, q.1 = .ref a → P a
  | _, _, .nil, q, h, _, _, _ => by cases h
  | _, _, .cons h1 t, q, h, io, a, ea => by
    rcases List.mem_cons.mp h with rfl | h
    · exact (h1 io a ea).1
    · exact FreshL.at t q h io a ea
theorem ODs.len {K : Kw} {F H : Hp} : ∀ {vs : List V} {os : List OD}, ODs K F H vs os → vs.length = os.length
  | _, _, .nil => rfl
  | _, _, .cons _ t => by rw [List.length_cons, List.length_cons, ODs.len t]
theorem ODs.keep {K : Kw} {F H F' H' : Hp} (e : Same F F') : ∀ {vs : List V} {os : List OD}, ODs K F H vs os → (∀ q ∈ vs.zip os, q.2.isO = true → ∀ a, q.1 = .ref a → F' a = none ∧ ∀ u, H a = some u → noT u → H' a = some u) → ODs K F' H' vs os
  | _, _, .nil, _ => .nil
  | _, _, .cons h t, k => .cons (h.keep e fun a ea io => k _ List.mem_cons_self io a ea) (ODs.keep e t fun q hq => k q (List.mem_cons_of_mem _ hq))
inductive NamesOk (n : Nat) (P : List Nat) : TGs → List Nat → Prop
  | nil : NamesOk n P gNil []
  | cons {i : Nat} {u : TGs} {is : List Nat} : i < n → i ∉ P → NamesOk n P u is → NamesOk n P (gCons (gName i) u) (i :: is)
end
section
variable {ρ : Rho}
end
end Eg
namespace Eg
instance (priority := low) noTbs : Tbs := ⟨[]⟩
end Eg
namespace Eg
open PySem L2 PySem.W PySem.SeqAt PySem.Spec PyProof.Rows
def withTs (ts : List Addr) (H : Hp) : Hp := fun b => if b ∈ ts then some (.tbl #[]) else H b
theorem withTs_in {ts : List Addr} {H : Hp} {b : Addr} (h : b ∈ ts) : withTs ts H b = some (.tbl #[]) := if_pos h
theorem withTs_out {ts : List Addr} {H : Hp} {b : Addr} (h : b ∉ ts) : withTs ts H b = H b := if_neg h
theorem law_topT {P : Program} {w : World} {K : PySem.W.Frag} {mg mb : Str → Option Value} {k : Nat} {fa a : Addr} {fd : FuncData} {x : Str} {sp : Sp} {sT : Shared} {vs : List Value} {ns : List Int} (cs : List (Addr × Addr))
    (KX : K.In sT.heap) (hns : sT.heap.Ns mainGlobals mg) (hb : sT.heap.Ns builtinsNs mb) (hbb : ∀ x : Str, x ≠ "__name__" → mb x = bootBuiltins x) (hlim : sT.heap.NoLimit) (hgen : sT.gens = #[])
    (hT : ∀ p ∈ cs, sT.heap.get? p.2 = some { cls := .none, data := .fields #[] }) (nT : ∀ p ∈ cs, K.lookup p.2 = none) (C : ∀ p ∈ cs, PySem.W.CodeHd sT.heap p.1 p.2)
    (hbm : ∃ (bm : Addr) (ob : Obj), mg "__builtins__" = some (.ref bm) ∧ bm ≠ builtinsNs ∧ sT.heap.get? bm = some ob ∧ ob.cls = .type "module" ∧ ob.dict = some builtinsNs ∧ ob.data = .plain)
    (ha : sT.heap.get? a = some { cls := .type "list", data := .seq vs.toArray }) (hi : IntsAre vs ns) (hr : Room k callerA) (hl : ns.length ≤ sizeLine)
    (F : ∀ base : Heap, (∀ p ∈ cs, LamX.TabB base mg p.1 p.2) → FnG P w K mg base (L2.CX P w) k fa fd [x] sp) (hbind : ∀ (s : Shared) (u : Value), BindsTo s fd ⟨[u], []⟩ [(x, u)])
    (hsp : ∀ H : Hp, (∀ p ∈ cs, H p.2 = some (.tbl #[])) → SqL K H a (ns.map V.int) → sp [.ref a] H (fun v _ => v = .bl true) fun _ _ _ => False) :
    codeAny (model P w) callerA (.call (.ref fa) ⟨[.ref a], []⟩) (fun r s' => r = .ok (.ret (.bool true)) ∧ OldK sT.heap s'.heap ∧ s'.os = sT.os ∧ AllBare s'.gens) sT := by
  obtain ⟨H0, sq0, ok0, only0⟩ := script_heap (P := P) (w := w) KX ha hi hl
  have tab : ∀ b ∈ cs.map (·.2), sT.heap.get? b = some { cls := .none, data := .fields #[] } ∧ K.lookup b = none := fun b hb => by
    obtain ⟨p, hp, rfl⟩ := List.mem_map.mp hb
    exact ⟨hT p hp, nT p hp⟩
  have aT : a ∉ cs.map (·.2) := fun z => by
    have q := (tab a z).1
    rw [ha] at q
    have q := congrArg Obj.data (Option.some.inj q)
    cases q
  have only : ∀ b, withTs (cs.map (·.2)) H0 b = none ∧ H0 b = none ∨ b = a ∧ K.lookup a = none ∧ (∃ o, withTs (cs.map (·.2)) H0 a = some (.frz o (.lst (ns.map V.int)))) ∨ b ∈ cs.map (·.2) := fun b => by
    by_cases z : b ∈ cs.map (·.2)
    · exact .inr (.inr z)
    · rcases only0 b with q | ⟨q1, q2, o, q3⟩
      · exact .inl ⟨by rw [withTs_out z]; exact q, q⟩
      · subst q1
        exact .inr (.inl ⟨rfl, q2, o, by rw [withTs_out z]; exact q3⟩)
  have sm : Same H0 (withTs (cs.map (·.2)) H0) := fun b u h => by
    by_cases z : b ∈ cs.map (·.2)
    · rcases only0 b with q | ⟨q1, _⟩
      · rw [q] at h; cases h
      · exact absurd (q1 ▸ z) aT
    · rw [withTs_out z]; exact h
  have sq := sm.seq sq0
  have tb : ∀ p ∈ cs, withTs (cs.map (·.2)) H0 p.2 = some (.tbl #[]) := fun p hp => withTs_in (List.mem_map.mpr ⟨p, hp, rfl⟩)
  have ok : HOk P w (withTs (cs.map (·.2)) H0) sT.heap := fun b u h => by
    by_cases z : b ∈ cs.map (·.2)
    · rw [withTs_in z] at h
      cases h
      exact (tab b z).1
    · rw [withTs_out z] at h
      rcases only0 b with q | ⟨q1, _, o, q3⟩
      · rw [q] at h; cases h
      · have r := ok0 b u h
        subst q1
        rw [q3] at h
        cases h
        exact r
  generalize withTs (cs.map (·.2)) H0 = H at only sq tb ok
  -- an object that is neither the script nor a table is in the ground
  have up : ∀ {b : Addr} {o : Obj}, sT.heap.get? b = some o → (∀ us m, o.data ≠ .seq us m) → o.data ≠ .fields #[] → (hidT sT.heap H).get? b = some o := fun {b o} e h1 h2 => by
    rcases only b with ⟨z, _⟩ | ⟨z, _⟩ | z
    · exact hidT_get e z
    · rw [z, ha] at e
      cases e
      exact absurd rfl (h1 _ _)
    · rw [(tab b z).1] at e
      cases e
      exact absurd rfl h2
  have dictUp : ∀ {b : Addr} {m : Str → Option Value}, sT.heap.Ns b m → (hidT sT.heap H).Ns b m := fun {b m} ⟨o, es, ep, e, d, r⟩ =>
    ⟨o, es, ep, up e (fun us m q => by rw [d] at q; cases q) (fun q => by rw [d] at q; cases q), d, r⟩
  have kIn : K.In (hidT sT.heap H) := fun b o e => by
    rcases only b with ⟨z, _⟩ | ⟨z, z2, _⟩ | z
    · exact hidT_get (KX b o e) z
    · subst z; rw [z2] at e; cases e
    · rw [(tab b z).2] at e; cases e
  obtain ⟨ml, l1, l2⟩ := hlim
  have md : Mod K mg (hidT sT.heap H) := ⟨kIn, dictUp hns, ⟨mb, dictUp hb, hbb⟩, ml, dictUp l1, l2⟩
  have TB : ∀ p ∈ cs, LamX.TabB (hidT sT.heap H) mg p.1 p.2 := fun p hp => by
    refine ⟨?_, ?_, fun z => ?_⟩
    · obtain ⟨o, us, file, tf, flags, tg, inF, text, tt, e1, r1, r2, r3, rr⟩ := C p hp
      refine ⟨o, us, file, tf, flags, tg, inF, text, tt, up e1 (fun us m q => by rw [r2] at q; cases q) (fun q => ?_), r1, r2, r3, rr⟩
      rw [r2] at q
      cases q
      simp at r3
    · obtain ⟨bm, ob, b1, b2, b3, b4, b5, b6⟩ := hbm
      refine ⟨bm, ob, b1, b2, fun q => ?_, fun q => ?_, up b3 (fun us m q => by rw [b6] at q; cases q) (fun q => by rw [b6] at q; cases q), b4, b5, b6⟩
      · obtain ⟨o, es, ep, e, hd, _⟩ := hns
        rw [q, e] at b3
        cases b3
        rw [hd] at b6
        cases b6
      · rw [q, hT p hp] at b3
        cases b3
        cases b6
    · obtain ⟨o, es, ep, e, hd, _⟩ := hns
      rw [z, hT p hp] at e
      cases e
      cases hd
  have e0 : Env0 P w K mg (hidT sT.heap H) callerA [] sT H := ⟨rfl, md, fun b o e => of_hidT e, Nat.le_of_eq (hidT_size _ _), trivial, fun b z => (by cases z), ok, .of_eq hgen⟩
  refine codeAny_mono ((F _ TB).run callerA [] sT H ⟨[.ref a], []⟩ [.ref a] [.ref a] _ _ rfl hr e0 (hbind sT (.ref a)) (.cons rfl .nil) (hsp H tb sq)) fun r s' z => ?_
  match r, z with
  | .error e, z => exact (quietTop z).elim
  | .ok (.ret u), ⟨v, H', os, bare, un, ok', ru, ev⟩ =>
    have ev : v = .bl true := ev
    subst ev
    obtain rfl : u = Value.bool true := ru
    have old : ∀ b o, b ∉ cs.map (·.2) → sT.heap.get? b = some o → s'.heap.get? b = some o := fun b o nb e => by
      rcases only b with ⟨z, _⟩ | ⟨z, _, ob, z3⟩ | z
      · exact un.keep b o e z (fun y => by cases y) (fun y => by cases y)
      · subst z
        have now := (ok' b _ (un.frzs b ob _ z3)).1
        have was := (ok b _ z3).1
        rw [e] at was
        cases was
        exact now
      · exact absurd z nb
    have grown : ∀ b ∈ cs.map (·.2), ∃ more : Array Value, s'.heap.get? b = some { cls := .none, data := .fields more } := fun b hb => by
      obtain ⟨p, hp, rfl⟩ := List.mem_map.mp hb
      obtain ⟨more, z⟩ := un.tbls p.2 #[] (tb p hp)
      exact ⟨_, ok' p.2 _ z⟩
    refine ⟨rfl, ⟨fun b o e => ?_, fun b o e => ?_⟩, os, bare⟩
    · by_cases hb : b ∈ cs.map (·.2)
      · obtain ⟨more, hm⟩ := grown b hb
        obtain ⟨p, hp, rfl⟩ := List.mem_map.mp hb
        rw [hT p hp] at e
        cases e
        exact .inr (.inl ⟨((C p hp).tab (hT p hp)).isCodeTable, rfl, #[], more, rfl, by rw [Array.empty_append]; exact hm⟩)
      · exact .inl (old b o hb e)
    · by_cases hb : b ∈ cs.map (·.2)
      · obtain ⟨more, hm⟩ := grown b hb
        exact ⟨_, hm⟩
      · exact ⟨o, old b o hb e⟩
end Eg
namespace Eg
open PySem L2 PySem.W PySem.SeqAt PySem.Spec PyProof.Rows
section
variable {X : Cx} {pins : List (Addr × Obj)} {σ : L2.St} {H HZ : Hp} {s s1 : Shared}
abbrev gotCx (X : Cx) (CXg : CXT) (Ng : List Str) (qg : Str) (sg : Scope) (g : Addr) (cdg : Value) (s : Shared) (H : Hp) (Ec : XK) : Cx := cxOf CXg X.prog X.w X.K X.mg X.base Ng qg sg g cdg X.A X.stack s H Ec
theorem pe_actG {CXg : CXT} {Ec : XK} {Ng : List Str} {qg : Str} {sg : Scope} {g f c' : Addr} {cdg pm ctv : Value} {params : Arguments} {body : Expr} {scope : Scope} {k i : Nat} {a : Str} {pn : List (Addr × Obj)} {xe : Value → Shared → Prop} {W : WX} {tb : XK → TE} {p1 p2 : Pos}
    (I : Inv X pins σ H s) (L : LamX.LamS X.env.scope scope) (hf : s.heap.get? f = some (PySem.W.kla_obj "<lambda>" (X.env.qual ++ "<lambda>") params body scope (cloFrom X.env.cells scope.names []) pm c' ctv)) (hfn : H f = none) (hfr : f ∉ frs X.stack)
    (hbind : bindArgs (PySem.W.kla_fn "<lambda>" (X.env.qual ++ "<lambda>") params body scope (cloFrom X.env.cells scope.names []) pm (.ref c') ctv) ⟨[], []⟩ = pure [])
    (tk : Takes ((gotCx X CXg Ng qg sg g cdg s H Ec).tr pn xe) W) (hr : Room (k + 1) (X.A.deeper (envOfC qg sg s.heap.objs.size g cdg)))
    (hbody : ∀ (E : XK) (s1 : Shared) (H1 : Hp), Room k ((X.A.deeper (envOfC qg sg s.heap.objs.size g cdg)).deeper (LamX.lamEnv X scope s1.heap.objs.size f c')) → PE (LamX.lamCx X (X.A.deeper (envOfC qg sg s.heap.objs.size g cdg)) (envOfC qg sg s.heap.objs.size g cdg :: X.stack) s1 H1 E scope f c') body (tb E))
    (hN : Ng[i]? = some a) (hv : Vis sg a) (hd : (a == ("__debug__" : Str)) = false := by decide) (hcd : (a == ("__classdict__" : Str)) = false := by decide) :
    PE ((gotCx X CXg Ng qg sg g cdg s H Ec).tr pn xe) (.Call (.Name a p1) [] [] p2)
      (fun σZ HZ Q => σZ[i]? = some (some (.ref f)) ∧ HZ c' = some (LamX.CodeO c' (X.env.qual ++ "<lambda>")) ∧ tb (WE W σZ) σ HZ Q) := by
  refine ⟨fun pinsZ sZ σZ HZ Q IZ ⟨hs, hc, ht⟩ => wpAny_Call_Name_kw (thn ((pe_var (pos := p1) (i := i) hN hv hd hcd).run pinsZ sZ σZ HZ (fun v H1 => v = .ref f ∧ H1 = HZ) IZ ⟨.ref f, hs, rfl, rfl⟩) fun u s1 ⟨v, H1, I1, r1, q1⟩ => ?_)⟩
  obtain ⟨rfl, rfl⟩ := q1
  obtain rfl : u = Value.ref f := r1
  have of1 := I1.base.keep f _ hf hfn hfr (fun z => nomatch (show f ∈ ([] : List Addr) from z))
  refine PySem.W.callWith_F0 ⟨_, _, _, _, of1⟩ (wpAny_call (codeAny_mono (?_ : codeAny (model X.prog X.w) (X.A.deeper (envOfC qg sg s.heap.objs.size g cdg)) (.call (.ref f) ⟨[], []⟩) (CR (L2.CX X.prog X.w) (envOfC qg sg s.heap.objs.size g cdg :: X.stack) X.prog X.w H1 s1 Q (WE W σZ)) s1) fun r s' hq => ?_))
  · obtain ⟨⟨oc, vs, t, hoc, hdc, hvc⟩, _, _⟩ := I1.hok c' _ hc
    refine PySem.W.kla_callFunE hr.depth of1 rfl L.co L.gen rfl ⟨c', oc, vs, t, rfl, hoc, hdc, hvc⟩ ?_
    rw [hbind]
    refine wpAny_pure (wpAny_newFunctionEnv (fun y hy => (L.own y hy).2) (fun y hy => absurd hy (by simp)) (fun h₁ hns hsb => ⟨I1.nolimit.fresh _ hsb, ?_⟩) L.kind)
    have kp : ∀ b o, s1.heap.get? b = some o → h₁.get? b = some o := fun b o e => hsb.extBut b o (Nat.ne_of_lt (Heap.lt_size e)) (Heap.get?_push_of_some _ e)
    have J := LamX.lam_start2 (E := WE W σZ) (f := f) (c' := c') (tk := s1.toks + ([] : List (Str × Value)).length) I L I1.env0 hr.hd I1.base hns kp
    refine PySem.W.kla_codeExpr (wpAny_mono ((hbody _ s1 H1 (hr.deeper _)).run [] _ _ H1 Q J ht) (fun v s' hq => ?_) fun e s' hq => hq)
    obtain ⟨w', H', J', rv, q⟩ := hq
    exact ⟨w', H', J'.os, J'.bare, J'.base, J'.hok, rv, q⟩
  · cases r with
    | error e => exact passAt tk σZ pinsZ H1 s1 e s' I1 hq
    | ok fl =>
      cases fl with
      | ret u => exact I1.after hq
      | next => exact False.elim hq
      | brk => exact False.elim hq
      | cont => exact False.elim hq
end
end Eg
namespace Eg
open PySem L2 PySem.W PySem.SeqAt PySem.Spec PyProof.Rows
theorem codeO_noT (c : Addr) (q : Str) : noT (LamX.CodeO c q) := fun ps z => LamX.codeO_ne ps z
inductive Made (H : Hp) (P : Addr) (q : Str) (pos : Pos) (c : Addr) : Hp → Prop
  | hit {ps : Array Value} : H P = some (.tbl ps) → codeAmong pos ps.toList = some (.ref c) → Made H P q pos c H
  | new {ps : Array Value} : H P = some (.tbl ps) → TriplesOk ps.toList → H c = none → Made H P q pos c (upd (upd H P (.tbl (ps ++ #[rawInt pos.line, rawInt pos.col, .ref c]))) c (LamX.CodeO c q))
section
variable [Tbs] {K : Kw} {F H H1 : Hp} {σ : L2.St} {ρ : Rho} {P c : Addr} {q : Str} {pos : Pos}
theorem Made.up (m : Made H P q pos c H1) (s : SR K F H σ ρ) (hm : (P, q) ∈ Tbs.T) (hu : ∀ p ∈ Tbs.T, p.1 = P → p.2 = q) :
    ∃ F1, SR K F1 H1 σ ρ ∧ Grow (own σ ρ) (own σ ρ) F H F1 H1 ∧ F1 c = some (LamX.CodeO c q) := by
  cases m with
  | hit hP hc =>
    obtain ⟨f1, ps, h1, h2, h3⟩ := s.tb.tab _ hm
    have h1 : H P = some (.tbl ps) := h1
    rw [hP] at h1
    cases h1
    obtain ⟨c0, e1, e2⟩ := h3 pos _ hc
    cases e1
    exact ⟨F, s, Grow.refl, e2⟩
  | new hP ht hc =>
    rename_i ps
    have fc : F c = none := s.sub.free hc
    have fP : F P = none := (s.tb.tab _ hm).1
    have nPc : P ≠ c := ne_of_none hP hc
    have up : Same F (upd F c (LamX.CodeO c q)) := fun b u h => by rw [upd_ne (ne_of_none h fc)]; exact h
    have off : ∀ b u, H b = some u → b ≠ P → upd (upd H P (.tbl (ps ++ #[rawInt pos.line, rawInt pos.col, .ref c]))) c (LamX.CodeO c q) b = some u := fun b u h n => by rw [upd_ne (ne_of_none h hc), upd_ne n]; exact h
    have atP : upd (upd H P (.tbl (ps ++ #[rawInt pos.line, rawInt pos.col, .ref c]))) c (LamX.CodeO c q) P = some (.tbl (ps ++ #[rawInt pos.line, rawInt pos.col, .ref c])) := by rw [upd_ne nPc, upd_same]
    have notP : ∀ b u, H b = some u → noT u → b ≠ P := fun b u h n z => by rw [z, hP] at h; exact n ps (Option.some.inj h).symm
    refine ⟨upd F c (LamX.CodeO c q), s.on up (fun b u h => ?_) ⟨fun p hp => ?_, nt_upd s.tb.nt (codeO_noT c q)⟩ fun a ha => ?_, ⟨up, fun b o h n _ => off b o h (notP b o h n), fun b ps2 h _ => ?_, fun b h => ?_, fun b h => .inl h⟩, upd_same⟩
    · by_cases e : b = c
      · subst e; rw [upd_same] at h ⊢; exact h
      · rw [upd_ne e] at h
        exact off b u (s.sub b u h) (notP b u (s.sub b u h) (s.tb.nt b u h))
    · obtain ⟨f1, ps2, h1, h2, h3⟩ := s.tb.tab p hp
      by_cases e : p.1 = P
      · rw [e] at h1 ⊢
        rw [hP] at h1
        cases h1
        have eL : (ps ++ #[rawInt pos.line, rawInt pos.col, .ref c]).toList = ps.toList ++ [rawInt pos.line, rawInt pos.col, .ref c] := by simp
        refine ⟨by rw [upd_ne nPc]; exact fP, _, atP, by rw [eL]; exact PySem.TriplesOk_snoc _ _ _ _ ht, fun p' cv hcv => ?_⟩
        rw [eL] at hcv
        rcases LamX.among_app _ ht hcv with z | z
        · obtain ⟨c0, e1, e2⟩ := h3 p' cv z
          exact ⟨c0, e1, up _ _ e2⟩
        · exact ⟨c, z, by rw [hu p hp e]; exact upd_same⟩
      · refine ⟨by rw [upd_ne (ne_of_none h1 hc)]; exact f1, ps2, off _ _ h1 e, h2, fun p' cv hcv => ?_⟩
        obtain ⟨c0, e1, e2⟩ := h3 p' cv hcv
        exact ⟨c0, e1, up _ _ e2⟩
    · obtain ⟨h1, u, h2⟩ := own.at s ha
      exact ⟨by rw [upd_ne (ne_of_none h2 hc)]; exact h1, fun u' h n => off a u' h (notP a u' h n)⟩
    · by_cases e : b = P
      · subst e; exact ⟨_, atP⟩
      · exact ⟨ps2, off b _ h e⟩
    · by_cases e : b = c
      · subst e; exact .inr (.inl hc)
      · rw [upd_ne e] at h; exact .inl h
end
end Eg
namespace Eg
open PySem L2 PySem.W PySem.SeqAt PySem.Spec PyProof.Rows
section
variable {X : Cx} {pins : List (Addr × Obj)} {σ : L2.St} {H : Hp} {s : Shared}
theorem lam_made {c P : Addr} {ps : Array Value} {params : Arguments} {body : Expr} {scope : Scope} {pos : Pos} {E : Value → Shared → Prop} {Q : Value → Shared → Prop} (I : Inv X pins σ H s) (TB : LamX.TabB X.base X.mg c P) (hcode : X.env.code = .ref c)
    (hP : H P = some (.tbl ps)) (ht : TriplesOk ps.toList) (ha : ∀ (p' : Pos) (cv : Value), codeAmong p' ps.toList = some cv → ∃ c0, cv = .ref c0 ∧ H c0 = some (LamX.CodeO c0 (X.env.qual ++ "<lambda>"))) (hdef : defaultsOf params X.env = ([], [])) (hfree : ∀ y ∈ scope.names, y.2 = .free → ∃ c, X.env.cells.lookup y.1 = some c)
    (h : ∀ (f c' : Addr) (pm ctv : Value) (H1 : Hp) (s' : Shared), Inv X pins σ H1 s' → Made H P (X.env.qual ++ "<lambda>") pos c' H1 →
      s'.heap.get? f = some (PySem.W.kla_obj "<lambda>" (X.env.qual ++ "<lambda>") params body scope (cloFrom X.env.cells scope.names []) pm c' ctv) → H1 f = none → f ∉ frs X.stack → H1 c' = some (LamX.CodeO c' (X.env.qual ++ "<lambda>")) → Q (.ref f) s') :
    wpAny (model X.prog X.w) X.A (eval (.Lambda params body scope pos) X.env) Q E s := by
  refine PySem.W.kla_eval hdef ?_
  have bP : s.heap.BuiltinsAt X.mg P := TB.bm.keeps I.bk
  have hP' := I.hok P _ hP
  have nofr : ∀ f, s.heap.objs.size ≤ f → f ∉ frs X.stack := fun f hf z => by
    rcases List.mem_cons.mp (I.stkSub _ z) with e | e
    · exact absurd (Nat.lt_of_lt_of_le (e ▸ I.lt) hf) (Nat.lt_irrefl _)
    · exact I.nofs hf e
  cases hc : codeAmong pos ps.toList with
  | none =>
    refine PySem.W.kla_makeFunction (mg := X.mg) (c := c) (P := P) (ps := ps) (closure_ok hfree) I.ok.glob (I.mod.glob.keeps I.bk) hcode (TB.code.keeps I.bk) hP' ht hc TB.gP bP fun c' ctv h' tk hx hge hlt hrec htb => ?_
    obtain ⟨c2, oc, vs, t, e2, hoc, hd, hv⟩ := hrec
    cases e2
    have nC : H c' = none := I.hok.fresh hge
    have hsz := Nat.le_trans hge (Nat.le_of_lt hlt)
    have I1 := LamX.inv_table (t' := tk) (more := #[rawInt pos.line, rawInt pos.col, .ref c']) (h' := h'.push (PySem.W.kla_obj "<lambda>" (X.env.qual ++ "<lambda>") params body scope (cloFrom X.env.cells scope.names []) ((X.mg "__name__").getD .none) c' ctv)) I hP
      (fun b o hb e => Heap.get?_push_of_some _ (hx b o hb e)) (Heap.get?_push_of_some _ htb) hge ⟨oc, vs, t, Heap.get?_push_of_some _ hoc, hd, hv⟩
    refine h h'.objs.size c' ((X.mg "__name__").getD .none) ctv _ _ I1 (.new hP ht nC) (Heap.get?_push_size _ rfl) ?_ (nofr _ hsz) upd_same
    rw [upd_ne (Nat.ne_of_gt hlt), upd_ne (Nat.ne_of_gt (Nat.lt_of_lt_of_le (Heap.lt_size hP') hsz))]
    exact I.hok.fresh hsz
  | some cv =>
    obtain ⟨c', e, hco⟩ := ha pos cv hc
    subst e
    refine PySem.W.kla_makeFunctionHit (mg := X.mg) (c := c) (P := P) (ps := ps) (closure_ok hfree) I.ok.glob (I.mod.glob.keeps I.bk) hcode (TB.code.keeps I.bk) hP' ht hc bP fun ctv h' tk hx hsz => ?_
    have I1 : Inv X pins σ H { s with heap := h'.push (PySem.W.kla_obj "<lambda>" (X.env.qual ++ "<lambda>") params body scope (cloFrom X.env.cells scope.names []) ((X.mg "__name__").getD .none) c' ctv), toks := tk } := I.kept fun b o e => Heap.get?_push_of_some _ (hx b o e)
    exact h h'.objs.size c' ((X.mg "__name__").getD .none) ctv H _ I1 (.hit hP hc) (Heap.get?_push_size _ rfl) (I.hok.fresh hsz) (nofr _ hsz) hco
end
def GotBy (X : Cx) (Ng : List Str) (x : Str) (sg : Scope) (g : Addr) (cdg : Value) (bg : List Stmt) (a q : Str) (t : XK → TE) (σ : L2.St) (SP : Addr → Addr → Hp → VK → Prop) : Prop :=
  ∀ (f c' : Addr) (s : Shared) (H : Hp) (Q : VK),
    (∀ (W : WX) (pn : List (Addr × Obj)) (xe : Value → Shared → Prop) (p1 p2 : Pos), Takes ((gotCx X (L2.CX X.prog X.w) Ng x sg g cdg s H (fun _ _ _ => False)).tr pn xe) W →
      PE ((gotCx X (L2.CX X.prog X.w) Ng x sg g cdg s H (fun _ _ _ => False)).tr pn xe) (.Call (.Name a p1) [] [] p2) (fun σZ HZ Q => σZ[0]? = some (some (.ref f)) ∧ HZ c' = some (LamX.CodeO c' q) ∧ t (WE W σZ) σ HZ Q)) →
    H c' = some (LamX.CodeO c' q) → SP f c' H Q →
    ∃ t', PSs (gotCx X (L2.CX X.prog X.w) Ng x sg g cdg s H (fun _ _ _ => False)) bg t' ∧ t' { nx := fun _ H' => Q .non H', rt := Q } (L2.start Ng [.ref f]) H
def tLamG (P : Addr) (q : Str) (pos : Pos) (SP : L2.St → Addr → Addr → Hp → VK → Prop) : TE := fun σ H Q =>
  (∃ ps : Array Value, H P = some (.tbl ps) ∧ TriplesOk ps.toList ∧ ∀ (p' : Pos) (cv : Value), codeAmong p' ps.toList = some cv → ∃ c0, cv = .ref c0 ∧ H c0 = some (LamX.CodeO c0 q)) ∧
  ∀ (f c' : Addr) (H1 : Hp), Made H P q pos c' H1 → H1 f = none → SP σ f c' H1 Q
section
variable {X : Cx}
theorem pe_lamG {x a : Str} {g c P : Addr} {k : Nat} {pg : Arguments} {bg : List Stmt} {sg : Scope} {dV kV doc pm cdv ct oc : Value} {an od : Option Addr} {osl : Array (Option Value)} {Ng : List Str}
    {params : Arguments} {body : Expr} {scope : Scope} {t : XK → TE} {SP : L2.St → Addr → Addr → Hp → VK → Prop} {p lpos pos : Pos} (hg : Gl X x) (hm : X.mg x = some (.ref g)) (hk : PySem.W.keepIn X.K (.ref g) = true)
    (lk : X.K.lookup g = some ⟨oc, od, .func (PySem.W.fnOf x x pg bg sg dV kV doc pm an cdv ct), osl⟩) (hcg : PySem.W.codeIn X.K cdv x = true) (hb : L2.Binds X.K (PySem.W.fnOf x x pg bg sg dV kV doc pm an cdv ct) [a] []) (Sg : FnScope Ng [a] sg) (hNg : Ng[0]? = some a) (hva : Vis sg a)
    (hG : ∀ σ, GotBy X Ng x sg g cdv bg a (X.env.qual ++ "<lambda>") t σ (SP σ))
    (TB : LamX.TabB X.base X.mg c P) (hcode : X.env.code = .ref c) (hr : Room (k + 2) X.A) (L : LamX.LamS X.env.scope scope) (hdef : defaultsOf params X.env = ([], []))
    (hbind : ∀ (q : Str) (cl : List (Str × Addr)) (pm cv ctv : Value), bindArgs (PySem.W.kla_fn "<lambda>" q params body scope cl pm cv ctv) ⟨[], []⟩ = pure [])
    (hbody : ∀ (cdg : Value) (s s1 : Shared) (H1 : Hp) (E : XK) (f c' : Addr), Room k ((X.A.deeper (envOfC x sg s.heap.objs.size g cdg)).deeper (LamX.lamEnv X scope s1.heap.objs.size f c')) →
      PE (LamX.lamCx X (X.A.deeper (envOfC x sg s.heap.objs.size g cdg)) (envOfC x sg s.heap.objs.size g cdg :: X.stack) s1 H1 E scope f c') body (t E))
    (hdb : (x == ("__debug__" : Str)) = false := by decide) (hd : (a == ("__debug__" : Str)) = false := by decide) (hcd : (a == ("__classdict__" : Str)) = false := by decide) :
    PE X (.Call (.Name x p) [.Lambda params body scope lpos] [] pos) (tLamG P (X.env.qual ++ "<lambda>") lpos SP) := by
  refine ⟨fun pins s σ H Q I ⟨⟨ps, hP, ht, ha⟩, h⟩ => wpAny_Call_Name_kw (ld_glob I hg hm ?_ hdb)⟩
  refine PySem.W.callWith_K (h₀ := X.base) I.ok.mod.kin hk ?_ (by rfl) (by rfl)
  show wpAny _ _ (spliced ((false, eval (.Lambda params body scope lpos) X.env) :: backTo pos (starEach [] X.env))) _ _ s
  refine Calls.spliced_cons (lam_made I TB hcode hP ht ha hdef (L.has I.ok) fun f c' pm' ctv H1 s' I1 made hf hfn hfr hco => ?_)
  refine Calls.spliced_nil ⟨I1.kIn, ?_⟩
  have rc : codeAny (model X.prog X.w) X.A (.call (.ref g) ⟨[.ref f], []⟩) (CR (L2.CX X.prog X.w) X.stack X.prog X.w H1 s' Q (fun _ _ _ => False)) s' :=
    LamX.run_ofS (N := Ng) (ps := [a]) (us := [.ref f]) (vs := [.ref f]) lk hcg Sg hr I1.env0 (hb s' [.ref f] I1.kIn rfl) (.cons rfl .nil) rfl fun hr' =>
      hG σ f c' s' H1 Q (fun W pn xe p1 p2 tk => pe_actG (i := 0) I1 L hf hfn hfr (hbind _ _ _ _ _) tk hr' (fun E s2 H2 hr2 => hbody cdv s' s2 H2 E f c' hr2) hNg hva hd hcd) hco (h f c' H1 made hfn)
  refine wpAny_call (codeAny_mono rc fun r s2 hq => ?_)
  cases r with
  | error e =>
    obtain ⟨_, _, _, _, _, _, _, _, _, _, _, _, z⟩ := hq
    exact z.elim
  | ok fl =>
    cases fl with
    | ret u => exact I1.after hq
    | next => exact False.elim hq
    | brk => exact False.elim hq
    | cont => exact False.elim hq
end
end Eg
namespace Eg
open PySem L2 PySem.W PySem.SeqAt PySem.Spec PyProof.Rows
def capR (n : Nat) (caps : List (Nat × PyData)) : Rho := (List.range n).map fun i => (caps.lookup i).map OD.sh
theorem look_mem {d : PyData} {i : Nat} : ∀ {caps : List (Nat × PyData)}, caps.lookup i = some d → (i, d) ∈ caps
  | [], h => by cases h
  | (j, e) :: caps, h => by
    rw [List.lookup_cons] at h
    by_cases q : i = j
    · subst q
      simp at h
      subst h
      exact List.mem_cons_self
    · have : (i == j) = false := by simpa using q
      rw [this] at h
      exact List.mem_cons_of_mem _ (look_mem h)
theorem capR_at {n : Nat} {caps : List (Nat × PyData)} {i : Nat} {o : OD} (h : (capR n caps)[i]? = some (some o)) : ∃ d, o = .sh d ∧ (i, d) ∈ caps := by
  unfold capR at h
  rw [List.getElem?_map] at h
  cases q : (List.range n)[i]? with
  | none => rw [q] at h; cases h
  | some j =>
    have e : j = i := by
      obtain ⟨_, e⟩ := List.getElem?_eq_some_iff.mp q
      rw [← e, List.getElem_range]
    subst e
    rw [q] at h
    cases q2 : caps.lookup j with
    | none => simp [q2] at h
    | some d =>
      simp [q2] at h
      exact ⟨d, h.symm, look_mem q2⟩
def mAsk (i n : Nat) (mb : M OD) : M OD := fun ρ => match ρ[i]? with
  | some (some (.lam caps)) => (match mb (capR n caps) with
    | .ok (.sh d) _ => .ok (.sh d) ρ
    | .ex x _ => .ex x ρ
    | _ => .bad)
  | _ => .bad
section
variable [Tbs] {Xc : Cx} {C : Ct} {K0 : Kw} {e : Expr} {li : LamI} {i n : Nat} {mb : M OD}
theorem capR_sr {F H : Hp} {caps : List (Nat × PyData)} (sub : Same F H) (tb : TB F H) (hn : li.σ.length = n) (h : ∀ x ∈ caps, ∃ u, li.σ[x.1]? = some (some u) ∧ DV K0 F u x.2) : SR K0 F H li.σ (capR n caps) ∧ ∀ b, ¬ own li.σ (capR n caps) b := by
  refine ⟨⟨sub, by unfold capR; rw [List.length_map, List.length_range, hn], fun j o e => ?_, fun j k o o' a _ e i1 => ?_, tb⟩, fun b ⟨j, o, e, i1, _⟩ => ?_⟩
  · obtain ⟨d, rfl, m⟩ := capR_at e
    obtain ⟨u, u1, u2⟩ := h _ m
    exact ⟨u, u1, u2⟩
  · obtain ⟨d, rfl, _⟩ := capR_at e; cases i1
  · obtain ⟨d, rfl, _⟩ := capR_at e; cases i1
theorem o_ask (hl : C.K.lam = some li) (hf : C.K.fr = K0.fr) (hn : li.σ.length = n)
    (act : PE Xc e (fun σZ HZ Q => σZ[i]? = some (some (.ref li.f)) ∧ HZ li.c = some (LamX.CodeO li.c li.q) ∧ tO ⟨K0, fun cls d _ H' => WE C.W σZ cls d H', C.XR⟩ mb li.σ HZ Q)) : PE Xc e (tO C (mAsk i n mb)) := by
  refine act.imp fun σZ HZ Q ⟨F, ρ, sr, p⟩ => ?_
  unfold mAsk at p
  cases q : ρ[i]? with
  | none => rw [q] at p; exact p.elim
  | some o =>
    rw [q] at p
    cases o with
    | none => exact p.elim
    | some o =>
      cases o with
      | lam caps =>
        obtain ⟨v, hv, li', h1, h2, h3, h4⟩ := sr.sl i _ q
        rw [hl] at h1
        cases h1
        subst h2
        obtain ⟨s0, no⟩ := capR_sr (K0 := K0) (n := n) sr.sub sr.tb hn fun x hx => by
          obtain ⟨u, u1, u2⟩ := h4 x hx
          exact ⟨u, u1, u2.to hf⟩
        refine ⟨hv, sr.sub _ _ h3, F, capR n caps, s0, ?_⟩
        simp only at p
        cases em : mb (capR n caps) with
        | bad => simp only [em] at p; exact p.elim
        | ex x ρ' =>
          simp only [em] at p
          intro F' H' cls d g s r
          obtain ⟨s2, g2⟩ := sr.after0 no g s.sub s.tb
          exact p F' H' cls d g2 s2 r
        | ok o ρ' =>
          cases o with
          | sh d =>
            simp only [em] at p
            intro F' H' v' g s r
            obtain ⟨s2, g2⟩ := sr.after0 no g s.sub s.tb
            exact p F' H' v' g2 s2 ⟨DV.to hf.symm r.1, fun z => by cases z⟩
          | _ => simp only [em] at p; exact p.elim
      | _ => exact p.elim
end
end Eg
namespace Eg
open PySem L2 PySem.W PySem.SeqAt PySem.Spec PyProof.Rows
def capsOf (ρ : Rho) : List Nat → Option (List (Nat × PyData))
  | [] => some []
  | i :: is => match ρ[i]?, capsOf ρ is with
    | some (some (.sh d)), some cs => some ((i, d) :: cs)
    | _, _ => none
theorem capsOf_at {ρ : Rho} : ∀ {is : List Nat} {cs : List (Nat × PyData)}, capsOf ρ is = some cs → ∀ x ∈ cs, ρ[x.1]? = some (some (.sh x.2))
  | [], cs, h, x, hx => by cases h; cases hx
  | i :: is, cs, h, x, hx => by
    unfold capsOf at h
    split at h
    · rename_i d cs' e1 e2
      cases h
      rcases List.mem_cons.mp hx with rfl | hx
      · exact e1
      · exact capsOf_at e2 x hx
    · cases h
def mLam (is : List Nat) (m : M Out) (nl : Nat) : M OD := fun ρ => match capsOf ρ is with
  | some caps => (match m (some (.lam caps) :: List.replicate nl none) with
    | .ok (.rt (.sh d)) _ => .ok (.sh d) ρ
    | _ => .bad)
  | none => .bad
section
variable [Tbs] {X : Cx} {C : Ct}
theorem o_lam {x a : Str} {g c P : Addr} {k : Nat} {pg : Arguments} {bg : List Stmt} {sg : Scope} {dV kV doc pm cdv ct oc : Value} {an od : Option Addr} {osl : Array (Option Value)} {Ng : List Str} {is : List Nat} {m : M Out} {mb : M OD} {nl : Nat}
    {params : Arguments} {body : Expr} {scope : Scope} {p lpos pos : Pos} (hg : Gl X x) (hm : X.mg x = some (.ref g)) (hk : PySem.W.keepIn X.K (.ref g) = true)
    (lk : X.K.lookup g = some ⟨oc, od, .func (PySem.W.fnOf x x pg bg sg dV kV doc pm an cdv ct), osl⟩) (hcg : PySem.W.codeIn X.K cdv x = true) (hb : L2.Binds X.K (PySem.W.fnOf x x pg bg sg dV kV doc pm an cdv ct) [a] []) (Sg : FnScope Ng [a] sg) (hNg : Ng[0]? = some a) (hva : Vis sg a) (hnl : Ng.length = nl + 1)
    (hcal : ∀ (li : LamI) (s : Shared) (H : Hp), (∀ (W : WX) (pn : List (Addr × Obj)) (xe : Value → Shared → Prop) (p1 p2 : Pos), Takes ((gotCx X (L2.CX X.prog X.w) Ng x sg g cdv s H (fun _ _ _ => False)).tr pn xe) W →
        PE ((gotCx X (L2.CX X.prog X.w) Ng x sg g cdv s H (fun _ _ _ => False)).tr pn xe) (.Call (.Name a p1) [] [] p2) (tO ⟨⟨X.K, X.w, X.mg, none, some li⟩, W, C.XR⟩ (mAsk 0 X.N.length mb))) →
      PSs (gotCx X (L2.CX X.prog X.w) Ng x sg g cdv s H (fun _ _ _ => False)) bg (tS ⟨⟨X.K, X.w, X.mg, none, some li⟩, fun _ _ _ _ => False, C.XR⟩ [] m))
    (tabB : LamX.TabB X.base X.mg c P) (hcode : X.env.code = .ref c) (hmT : (P, X.env.qual ++ "<lambda>") ∈ Tbs.T) (hu : ∀ p ∈ Tbs.T, p.1 = P → p.2 = X.env.qual ++ "<lambda>") (hr : Room (k + 2) X.A) (L : LamX.LamS X.env.scope scope) (hdef : defaultsOf params X.env = ([], []))
    (hbind : ∀ (q : Str) (cl : List (Str × Addr)) (pm cv ctv : Value), bindArgs (PySem.W.kla_fn "<lambda>" q params body scope cl pm cv ctv) ⟨[], []⟩ = pure [])
    (hbody : ∀ (cdg : Value) (s s1 : Shared) (H1 : Hp) (E : XK) (f c' : Addr), Room k ((X.A.deeper (envOfC x sg s.heap.objs.size g cdg)).deeper (LamX.lamEnv X scope s1.heap.objs.size f c')) →
      PE (LamX.lamCx X (X.A.deeper (envOfC x sg s.heap.objs.size g cdg)) (envOfC x sg s.heap.objs.size g cdg :: X.stack) s1 H1 E scope f c') body (tO ⟨⟨X.K, X.w, X.mg, none, none⟩, fun cls d _ H' => E cls d H', C.XR⟩ mb))
    (hK : C.K.fr = X.K := by rfl) (hdb : (x == ("__debug__" : Str)) = false := by decide) (hd : (a == ("__debug__" : Str)) = false := by decide) (hcd : (a == ("__classdict__" : Str)) = false := by decide) :
    PE X (.Call (.Name x p) [.Lambda params body scope lpos] [] pos) (tO C (mLam is m nl)) := by
  let q := X.env.qual ++ "<lambda>"
  let KL : Addr → Addr → L2.St → Kw := fun f c' σ => ⟨X.K, X.w, X.mg, none, some ⟨f, c', q, σ⟩⟩
  let SP : L2.St → Addr → Addr → Hp → VK → Prop := fun σ f c' H1 Q => σ.length = X.N.length ∧ ∃ (F1 : Hp) (caps : List (Nat × PyData)) (d : PyData) (ρe : Rho),
    SR (KL f c' σ) F1 H1 ([V.ref f].map some) ([OD.lam caps].map some) ∧ m (some (.lam caps) :: List.replicate nl none) = .ok (.rt (.sh d)) ρe ∧
    ∀ (F' H' : Hp) (σ' : L2.St) (v : V), Grow (own ([V.ref f].map some) ([OD.lam caps].map some)) (own σ' ρe) F1 H1 F' H' → Same F' H' → TB F' H' → DV C.K F' v d → Q v H'
  refine ⟨fun pins s σ H Q I ⟨F, ρ, sr, pp⟩ => (pe_lamG (k := k) (t := fun E => tO ⟨⟨X.K, X.w, X.mg, none, none⟩, fun cls d _ H' => E cls d H', C.XR⟩ mb) (SP := SP) (p := p) (lpos := lpos) (pos := pos) hg hm hk lk hcg hb Sg hNg hva (fun σ => ?_) tabB hcode hr L hdef hbind hbody hdb hd hcd).run pins s σ H Q I ⟨?_, fun f c' H1 made hfn => ?_⟩⟩
  · rintro f c' s H1 Q act hco ⟨hn, F1, caps, d, ρe, srZ, em, fin⟩
    refine ⟨_, hcal ⟨f, c', q, σ⟩ s H1 fun W pn xe p1 p2 tk => o_ask (C := ⟨⟨X.K, X.w, X.mg, none, some ⟨f, c', q, σ⟩⟩, W, C.XR⟩) (K0 := ⟨X.K, X.w, X.mg, none, none⟩) rfl rfl hn (act W pn xe p1 p2 tk), ?_⟩
    have est : L2.start Ng [V.ref f] = [V.ref f].map some ++ List.replicate nl none := by
      unfold L2.start
      rw [hnl]
      rfl
    have s0 := srZ.start nl
    rw [est]
    refine ⟨F1, [OD.lam caps].map some ++ List.replicate nl none, s0.1, ?_⟩
    show PostS _ _ _ _ _ _ _ (m (some (.lam caps) :: List.replicate nl none))
    rw [em]
    intro F' H' σ' v g s' _ r _
    exact fin F' H' σ' v (g.wide fun b hb => (s0.2 b hb)) s'.sub s'.tb (DV.to hK.symm r)
  · obtain ⟨_, ps, h1, h2, h3⟩ := sr.tb.tab _ hmT
    exact ⟨ps, h1, h2, fun p' cv hc => by
      obtain ⟨c0, e1, e2⟩ := h3 p' cv hc
      exact ⟨c0, e1, sr.sub _ _ e2⟩⟩
  · obtain ⟨F1, s1, g1, fc⟩ := made.up sr hmT hu
    unfold mLam at pp
    cases ec : capsOf ρ is with
    | none => simp only [ec] at pp; exact pp.elim
    | some caps =>
      simp only [ec] at pp
      have no : ∀ b, ¬ own ([V.ref f].map some) ([OD.lam caps].map some) b := fun b ⟨i, o, e1, i1, _⟩ => by
        match i, e1 with
        | 0, e1 => cases e1; cases i1
      cases em : m (some (.lam caps) :: List.replicate nl none) with
      | bad => simp only [em] at pp; exact pp.elim
      | ex y ρ' => simp only [em] at pp; exact pp.elim
      | ok o ρe =>
        cases o with
        | rt r =>
          cases r with
          | sh d =>
            simp only [em] at pp
            refine ⟨I.len, F1, caps, d, ρe, ⟨s1.sub, rfl, fun i o e => ?_, fun i j o o' b ne e i1 => ?_, s1.tb⟩, em, fun F' H' σ' v g sub tb dv => ?_⟩
            · match i, e with
              | 0, e =>
                cases e
                refine ⟨_, rfl, ⟨f, c', q, σ⟩, rfl, rfl, fc, fun y hy => ?_⟩
                obtain ⟨u, u1, u2⟩ := sr.sl _ _ (capsOf_at ec y hy)
                exact ⟨u, u1, DV.mono g1.ext (DV.to hK u2)⟩
            · match i, e with
              | 0, e => cases e; cases i1
            · obtain ⟨s3, g3⟩ := s1.after0 no g sub tb
              exact pp F' H' v (g1.trans g3) s3 ⟨dv, fun z => by cases z⟩
          | _ => simp only [em] at pp; exact pp.elim
        | _ => simp only [em] at pp; exact pp.elim
end
end Eg
namespace Eg
open PySem L2 PySem.W PySem.SeqAt PySem.Spec PyProof.Rows
abbrev CTN := Addr × Addr × Str
@[reducible] def tbsOf (T : List CTN) : Tbs := ⟨T.map (·.2)⟩
theorem law_walkT {l : PySem.W.OpenLaw} {n k m : Nat} {q : Program} {loose : List Str} {XP : (Str → Option Value) → Heap → Prop} {YP : World → Heap → Prop} {d : DefRec} {K : Params → PySem.W.Frag} {x : Str} {body : M Out} (nms : List Str)
    (hm1 : l.most = some n) (hm2 : n ≤ sizeLine) (hdf : d.params.defaults = []) (hr : Room k callerA) (hY : ∀ (w : World) (h : Heap), YP w h → (K w.params).In h)
    (F : ∀ (w : World) (mg : Str → Option Value) (fa : Addr) (hp : Heap), YP w hp → (K w.params).In hp → hp.Ns mainGlobals mg → mg d.name = some (.ref fa) →
      ∃ (T : List CTN) (fd : FuncData), (∀ p ∈ T, hp.get? p.2.1 = some { cls := .none, data := .fields #[] }) ∧ (∀ p ∈ T, (K w.params).lookup p.2.1 = none) ∧ (∀ p ∈ T, PySem.W.CodeHd hp p.1 p.2.1) ∧ (∀ (s : Shared) (u : Value), BindsTo s fd ⟨[u], []⟩ [(x, u)]) ∧
        ∀ base : Heap, (∀ p ∈ T, LamX.TabB base mg p.1 p.2.1) → FnG l.prog w (K w.params) mg base (L2.CX l.prog w) k fa fd [x] (@spI (tbsOf T) (K w.params) w mg (XRin nms ⟨K w.params, w, mg, none, none⟩) 1 (fnM m [false] body)))
    (true_ : ∀ ns : List Int, ns.length ≤ n → ∃ ρ, fnM m [false] body [some (.sc ns)] = .ok (.sh (.bool true)) ρ) :
    PySem.W.WalkO q loose XP YP l.row.toRowW d [] (fun f us => PySem.call f us) := by
  refine Att.attach_callB hm1 hdf fun w sA sT mg mb fa o pm cd doc a vs ns G Y h1 h2 h3 hmg hobj hints hlen hbits hg => ?_
  obtain ⟨T, fd, hT, nT, C, hb, hF⟩ := F w mg fa _ Y (hY w _ Y) G.T.g hmg
  letI : Tbs := tbsOf T
  have mp : ∀ p ∈ (T.map fun t => (t.1, t.2.1)), ∃ t ∈ T, p = (t.1, t.2.1) := fun p hp => by
    obtain ⟨t, ht, e⟩ := List.mem_map.mp hp
    exact ⟨t, ht, e.symm⟩
  refine law_topT (T.map fun t => (t.1, t.2.1)) (hY w _ Y) G.T.g G.T.b G.T.builtins G.T.nolimit hg (fun p hp => ?_) (fun p hp => ?_) (fun p hp => ?_) G.T.bmain hobj hints hr (Nat.le_trans hlen hm2) (fun base hbase => hF base fun t ht => hbase (t.1, t.2.1) (List.mem_map.mpr ⟨t, ht, rfl⟩)) hb fun H hH sq => ⟨rfl, offT H, [.sc ns], ⟨fun b u e => (offT_of e).1, rfl, fun i o h => ?_, fun i j o o' b ne h io => ?_, .start fun p hp => ?_⟩, ?_⟩
  · obtain ⟨t, ht, rfl⟩ := mp p hp; exact hT t ht
  · obtain ⟨t, ht, rfl⟩ := mp p hp; exact nT t ht
  · obtain ⟨t, ht, rfl⟩ := mp p hp; exact C t ht
  · match i, h with
    | 0, h => cases h; exact ⟨_, rfl, a, rfl, offT_sq sq⟩
  · match i, h with
    | 0, h => cases h; cases io
  · obtain ⟨t, ht, rfl⟩ := List.mem_map.mp hp
    exact hH (t.1, t.2.1) (List.mem_map.mpr ⟨t, ht, rfl⟩)
  · obtain ⟨ρ, e⟩ := true_ ns hlen
    show PostE _ _ _ _ _ _ _ (fnM m [false] body [some (.sc ns)])
    rw [e]
    intro F' H' v _ _ r
    have r := r.1
    cases r
    rfl
end Eg
namespace Eg
open PySem L2 PySem.W PySem.SeqAt PySem.Spec PyProof.Rows
end Eg
namespace Eg
open PySem L2 PySem.W PySem.SeqAt PySem.Spec PyProof.Rows
structure TMid [Tbs] (C : Ct) (σ0 : L2.St) (ρ1 : Rho) (vs : List Nat) (F1 H1 : Hp) (D : Addr) (σ : L2.St) (ρ : Rho) (F H : Hp) (acc : List (Key × PyData)) : Prop where
  sr : SR C.K F H σ ρ
  gr : Grow (own σ0 (wipeR ρ1 vs)) (own σ ρ) F1 H1 F H
  no : ¬ own σ ρ D
  ft : F D = none
  rows : ∃ L, H D = some (.dK L) ∧ KD C.K F L acc
section
variable [Tbs] {C : Ct} {σ0 σ : L2.St} {ρ1 ρ ρ' : Rho} {vs : List Nat} {F1 H1 F H F' H' : Hp} {D : Addr} {acc : List (Key × PyData)}
theorem TMid.on (m : TMid C σ0 ρ1 vs F1 H1 D σ ρ F H acc) (g : Grow (own σ ρ) (own σ ρ') F H F' H') (s : SR C.K F' H' σ ρ') : TMid C σ0 ρ1 vs F1 H1 D σ ρ' F' H' acc := by
  obtain ⟨L, h, t⟩ := m.rows
  refine ⟨s, m.gr.trans g, fun z => ?_, ?_, L, g.keep D _ h (fun _ z => by cases z) m.no, t.mono g.ext⟩
  · rcases g.ows D z with y | y
    · exact m.no y
    · rw [h] at y; cases y
  · cases q : F' D with
    | none => rfl
    | some u =>
      rcases g.new D (by rw [q]; simp) with z | z | z
      · exact absurd m.ft z
      · rw [h] at z; cases z
      · exact absurd z m.no
end
section
variable [Tbs] {X : Cx} {C : Ct} {kx vx tg iter : Expr} {ifs : List Expr} {pos : Pos}
end
end Eg
namespace Eg
open PySem L2 PySem.W PySem.SeqAt PySem.Spec PyProof.Rows
theorem KD.at {K : Kw} {H : Hp} : ∀ {es : List (Key × V)} {kvs : List (Key × PyData)} {i : Nat} {k : Key} {d : PyData}, KD K H es kvs → kvs[i]? = some (k, d) → ∃ v, es[i]? = some (k, v) ∧ DV K H v d
  | _, _, i, _, _, .nil, e => by simp at e
  | _, _, 0, _, _, .cons h t, e => by
    simp only [List.getElem?_cons_zero, Option.some.injEq, Prod.mk.injEq] at e
    obtain ⟨rfl, rfl⟩ := e
    exact ⟨_, rfl, h⟩
  | _, _, i + 1, _, _, .cons h t, e => by
    rw [List.getElem?_cons_succ] at e
    obtain ⟨v, e1, h1⟩ := KD.at t e
    exact ⟨v, by rw [List.getElem?_cons_succ]; exact e1, h1⟩
section
variable {K : Kw} {F : Hp} {a : Addr} {o : Obj} {es : List (Key × V)} {kvs : List (Key × PyData)}
end
section
variable [Tbs] {X : Cx} {C : Ct} {e o tg a b : Expr} {es : List Expr} {pos apos cpos pos' : Pos} {P : List Nat}
end
section
variable {A : Around} {s : Shared} {prog : Program} {w : World} {E : Value → Shared → Prop}
end
section
variable [Tbs] {X : Cx} {K : Kw} {pins : List (Addr × Obj)} {σ : L2.St} {H : Hp} {s : Shared}
theorem dvs_reads {F : Hp} (I : Inv X pins σ H s) (sub : Same F H) : ∀ {vs : List V} {us : List Value} {ds : List PyData}, DVs X.KW F vs ds → Vals vs us → ∃ as, ReadsAll s.heap us ds as
  | _, _, _, .nil, .nil => ⟨_, .nil⟩
  | _, _, _, .cons h t, .cons r q => by
    obtain ⟨as, h1⟩ := (DV.mono sub h).reads I r
    obtain ⟨bs, h2⟩ := dvs_reads I sub t q
    exact ⟨_, .cons h1 h2⟩
end
section
variable {ρ : Rho}
end
end Eg
namespace PySem
open Sem (wp)
end PySem
namespace Eg
open PySem L2 PySem.W PySem.SeqAt PySem.Spec PyProof.Rows
section
variable [Tbs] {X : Cx} {C : Ct} {a : Expr} {pos : Pos}
end
end Eg
namespace Eg
open PySem L2 PySem.W PySem.SeqAt PySem.Spec PyProof.Rows
structure GRow where
  k : PyData
  b : Addr
  l : Addr
  vs : List V
  ds : List PyData
def GRow.row (r : GRow) : KRow := (nk r.k, r.b, .ref r.l)
structure GOk (K : Kw) (F H : Hp) (r : GRow) : Prop where
  kt : keyT r.k = true
  kd : DV K F (.ref r.b) r.k
  hl : H r.l = some (.lst r.vs)
  dv : DVs K F r.vs r.ds
structure GMid [Tbs] (C : Ct) (σ0 : L2.St) (ρ0 : Rho) (F0 H0 : Hp) (a : Addr) (σ : L2.St) (ρ : Rho) (F H : Hp) (rs : List GRow) : Prop where
  sr : SR C.K F H σ ρ
  gr : Grow (own σ0 ρ0) (fun b => own σ ρ b ∨ b ∈ a :: rs.map (·.l)) F0 H0 F H
  obj : H a = some (KO C.K.w a (rs.map GRow.row))
  rows : ∀ r ∈ rs, GOk C.K F H r
  no : ∀ b ∈ a :: rs.map (·.l), ¬ own σ ρ b ∧ F b = none
  nd : (a :: rs.map (·.l)).Nodup
  kn : (rs.map fun r => nk r.k).Nodup
section
variable [Tbs] {C : Ct} {σ0 σ σ' : L2.St} {ρ0 ρ ρ' : Rho} {F0 H0 F H F' H' : Hp} {a : Addr} {rs : List GRow}
theorem GMid.has (m : GMid C σ0 ρ0 F0 H0 a σ ρ F H rs) {b : Addr} (hb : b ∈ a :: rs.map (·.l)) : ∃ u, H b = some u ∧ noT u := by
  rcases List.mem_cons.mp hb with rfl | hb
  · exact ⟨_, m.obj, KO_noT _ _ _⟩
  · obtain ⟨r, hr, rfl⟩ := List.mem_map.mp hb
    exact ⟨_, (m.rows r hr).hl, fun _ z => by cases z⟩
theorem GMid.on (m : GMid C σ0 ρ0 F0 H0 a σ ρ F H rs) (g : Grow (own σ ρ) (own σ' ρ') F H F' H') (s : SR C.K F' H' σ' ρ') : GMid C σ0 ρ0 F0 H0 a σ' ρ' F' H' rs := by
  have stay : ∀ b ∈ a :: rs.map (·.l), ∀ u, H b = some u → H' b = some u := fun b hb u hu => by
    obtain ⟨u', h1, h2⟩ := m.has hb
    rw [hu] at h1; cases h1
    exact g.keep b u hu h2 (m.no b hb).1
  refine ⟨s, ⟨m.gr.ext.trans g.ext, fun b o h t n => ?_, fun b ps h n => ?_, fun b h => ?_, fun b h => ?_⟩, stay a List.mem_cons_self _ m.obj, fun r hr => ?_, fun b hb => ⟨fun z => ?_, ?_⟩, m.nd, m.kn⟩
  · have h1 := m.gr.keep b o h t n
    refine g.keep b o h1 t fun z => ?_
    rcases m.gr.ows b (.inl z) with y | y
    · exact n y
    · rw [h] at y; cases y
  · obtain ⟨ps1, h1⟩ := m.gr.kt b ps h n
    refine g.kt b ps1 h1 fun z => ?_
    rcases m.gr.ows b (.inl z) with y | y
    · exact n y
    · rw [h] at y; cases y
  · rcases g.new b h with z | z | z
    · exact m.gr.new b z
    · rcases m.gr.back z with y | y
      · exact .inr (.inl y)
      · exact .inr (.inr y)
    · rcases m.gr.ows b (.inl z) with y | y
      · exact .inr (.inr y)
      · exact .inr (.inl y)
  · rcases h with z | z
    · rcases g.ows b z with y | y
      · exact m.gr.ows b (.inl y)
      · rcases m.gr.back y with x | x
        · exact .inr x
        · exact .inl x
    · exact m.gr.ows b (.inr z)
  · have k := m.rows r hr
    exact ⟨k.kt, DV.mono g.ext k.kd, stay r.l (List.mem_cons_of_mem _ (List.mem_map.mpr ⟨r, hr, rfl⟩)) _ k.hl, DVs.mono g.ext k.dv⟩
  · rcases g.ows b z with y | y
    · exact (m.no b hb).1 y
    · obtain ⟨u, h1, _⟩ := m.has hb
      rw [h1] at y; cases y
  · cases q : F' b with
    | none => rfl
    | some u =>
      rcases g.new b (by rw [q]; simp) with z | z | z
      · exact absurd (m.no b hb).2 z
      · obtain ⟨u, h1, _⟩ := m.has hb
        rw [h1] at z; cases z
      · exact absurd z (m.no b hb).1
theorem GMid.wr (m : GMid C σ0 ρ0 F0 H0 a σ ρ F H rs) {b : Addr} (hb : b ∈ a :: rs.map (·.l)) (u : HO) : SR C.K F (upd H b u) σ ρ ∧ Grow (own σ0 ρ0) (fun b => own σ ρ b ∨ b ∈ a :: rs.map (·.l)) F0 H0 F (upd H b u) := by
  obtain ⟨u0, h0, t0⟩ := m.has hb
  have far : ∀ c o, H0 c = some o → ¬ own σ0 ρ0 c → c ≠ b := fun c o h n z => by
    rcases m.gr.ows b (.inr hb) with y | y
    · exact n (z ▸ y)
    · rw [z, y] at h; cases h
  refine ⟨m.sr.on (Same.refl _) (fun c v q => by rw [upd_ne (ne_of_none q (m.no b hb).2)]; exact m.sr.sub c v q) (m.sr.tb.wr h0 t0) (fun c hc => ⟨(own.at m.sr hc).1, fun v q _ => by rw [upd_ne (fun z => (m.no b hb).1 (by rw [← z]; exact hc))]; exact q⟩), ⟨m.gr.ext, fun c o h t n => ?_, fun c ps h n => ?_, m.gr.new, m.gr.ows⟩⟩
  · rw [upd_ne (far c o h n)]; exact m.gr.keep c o h t n
  · rw [upd_ne (far c _ h n)]; exact m.gr.kt c ps h n
theorem GMid.add (m : GMid C σ0 ρ0 F0 H0 a σ ρ F H rs) {k : PyData} {b q : Addr} (kt : keyT k = true) (dk : DV C.K F (.ref b) k) (hq : H q = some (.lst [])) (fq : F q = none) (nq : ¬ own σ ρ q) (oq : own σ0 ρ0 q ∨ H0 q = none) (nm : q ∉ a :: rs.map (·.l)) (kn : nk k ∉ rs.map fun r => nk r.k) :
    GMid C σ0 ρ0 F0 H0 a σ ρ F (upd H a (KO C.K.w a ((rs ++ [GRow.mk k b q [] []]).map GRow.row))) (rs ++ [GRow.mk k b q [] []]) := by
  obtain ⟨s1, g1⟩ := m.wr (b := a) List.mem_cons_self (KO C.K.w a ((rs ++ [GRow.mk k b q [] []]).map GRow.row))
  have nqa : q ≠ a := fun z => nm (z ▸ List.mem_cons_self)
  have mm : ∀ c, c ∈ a :: (rs ++ [GRow.mk k b q [] []]).map (·.l) → c ∈ a :: rs.map (·.l) ∨ c = q := fun c hc => by
    rw [List.map_append] at hc
    rcases List.mem_cons.mp hc with z | hc
    · exact .inl (z ▸ List.mem_cons_self)
    · rcases List.mem_append.mp hc with z | z
      · exact .inl (List.mem_cons_of_mem _ z)
      · exact .inr (by simpa using z)
  refine ⟨s1, ⟨g1.ext, g1.keep, g1.kt, g1.new, fun c hc => ?_⟩, upd_same, fun r hr => ?_, fun c hc => ?_, ?_, ?_⟩
  · rcases hc with z | z
    · exact g1.ows c (.inl z)
    · rcases mm c z with y | y
      · exact g1.ows c (.inr y)
      · rw [y]; exact oq
  · rcases List.mem_append.mp hr with z | z
    · have g := m.rows r z
      refine ⟨g.kt, g.kd, ?_, g.dv⟩
      rw [upd_ne]
      · exact g.hl
      · intro y
        have := (List.nodup_cons.mp m.nd).1
        exact this (List.mem_map.mpr ⟨r, z, y⟩)
    · have z : r = GRow.mk k b q [] [] := by simpa using z
      subst z
      exact ⟨kt, dk, by rw [upd_ne nqa]; exact hq, .nil⟩
  · rcases mm c hc with y | y
    · exact m.no c y
    · rw [y]; exact ⟨nq, fq⟩
  · rw [List.map_append, ← List.cons_append]
    refine List.nodup_append.mpr ⟨m.nd, by simp, fun x hx y hy => ?_⟩
    simp at hy
    rw [hy]
    exact fun z => nm (z ▸ hx)
  · rw [List.map_append]
    refine List.nodup_append.mpr ⟨m.kn, by simp, fun x hx y hy => ?_⟩
    simp at hy
    rw [hy]
    exact fun z => kn (z ▸ hx)
end
end Eg
namespace Eg
open PySem L2 PySem.W PySem.SeqAt PySem.Spec PyProof.Rows
section
variable [Tbs] {X : Cx} {C : Ct} {P : List Nat} {e ve o : Expr} {pos apos lp : Pos}
end
end Eg
namespace Eg
open PySem L2 PySem.W PySem.SeqAt PySem.Spec PyProof.Rows
section
variable {X : Cx} {pins : List (Addr × Obj)} {σ : L2.St} {H : Hp} {s : Shared} {d : Addr} {o : Obj} {L : List KRow} {w : World}
end
section
variable {P : Program} {w : World} {K : PySem.W.Frag} {tg : Expr} {d : Addr} {o : Obj} {es : Array DictEntry} {ep : Nat}
end
section
variable {X : Cx} {tg e : Expr} {td : TE} {apos cpos : Pos}
end
theorem KN.at {K : Kw} {H : Hp} : ∀ {L : List KRow} {kvs : List (PyData × PyData)} {i : Nat} {p : PyData × PyData}, KN K H L kvs → kvs[i]? = some p → ∃ r, L[i]? = some r ∧ DV K H r.2.2 p.2
  | _, _, i, _, .nil, e => by simp at e
  | _, _, 0, _, .cons _ _ _ h t, e => by
    simp only [List.getElem?_cons_zero, Option.some.injEq] at e
    cases e
    exact ⟨_, rfl, h⟩
  | _, _, i + 1, _, .cons _ _ _ h t, e => by
    rw [List.getElem?_cons_succ] at e
    obtain ⟨r, e1, h1⟩ := KN.at t e
    exact ⟨r, by rw [List.getElem?_cons_succ]; exact e1, h1⟩
section
variable [Tbs] {X : Cx} {C : Ct} {e tg : Expr} {apos cpos : Pos}
end
end Eg
namespace Eg
open PySem L2 PySem.W PySem.SeqAt PySem.Spec PyProof.Rows
section
variable {X : Cx} {pins : List (Addr × Obj)} {σ : L2.St} {H : Hp} {s : Shared} {d : Addr} {o : Obj} {L : List KRow} {w : World}
end
section
variable {P : Program} {w : World} {K : PySem.W.Frag} {d : Addr} {o : Obj} {es : Array DictEntry} {ep : Nat}
end
section
variable {X : Cx} {e : Expr} {td : TE} {apos cpos : Pos}
end
section
variable [Tbs] {X : Cx} {C : Ct} {e : Expr} {apos cpos : Pos} {elts : List Expr} {kk : Nat} {tpos : Pos}
end
end Eg
namespace Eg
open PySem L2 PySem.W PySem.SeqAt PySem.Spec PyProof.Rows
section
variable [Tbs] {X : Cx} {C : Ct} {e : Expr}
end
end Eg
namespace Eg
open PySem L2 PySem.W PySem.SeqAt PySem.Spec PyProof.Rows
def asTwo (K : PySem.W.Frag) (c1 c2 : Value) (i : Nat) (ts : Addr → Value → Option Addr → TS) (Wout : WX) (D : Ends) : WX := fun cls d σ H =>
  ∃ b, PySem.W.exmAny K cls [c1, c2] = some b ∧
    (b = true → ∀ a, H a = none → ts a cls d ⟨fun σ1 H1 => D.nx (σ1.set i none) H1, D.rt, fun σ1 H1 => D.bk (σ1.set i none) H1, fun σ1 H1 => D.ct (σ1.set i none) H1⟩ (σ.set i (some (.ref a))) H) ∧
    (b = false → Wout cls d σ H)
theorem fly_push {B h : Heap} {l : List Env} {a : Addr} {Z : Obj → Prop} (fl : HandSPX.FlyingZ B l a Z h) (u : Obj) : HandSPX.FlyingZ B l a Z (h.push u) := by
  obtain ⟨st, no, ff, oe, vs, T, oT, ts, e1, z, e2, e3, e4, ne, e5, e6, e7⟩ := fl
  have up : ∀ {b : Addr} {o : Obj}, h.get? b = some o → (h.push u).get? b = some o := fun e => Heap.get?_push_of_some _ e
  exact ⟨fun b o e => up (st b o e), no, Heap.FunFrames.of_keeps (fun b o e _ => ⟨o, up e, rfl⟩) ff, oe, vs, T, oT, ts, up e1, z, e2, e3, e4, ne, up e5, e6, e7⟩
section
variable {X : Cx} {x1 x2 n : Str} {c1 c2 : Value} {i : Nat} {body suite : List Stmt} {b₀ : Stmt} {p1 p2 p3 pos pos' : Pos} {kk : Nat} {tb : WX → TS} {ts : Addr → Value → Option Addr → TS} {Wout : WX}
theorem ps_try_two (hs : X.stack = X.env :: X.outer) (hf : X.env.frame = some X.env.locals) (hN : X.N.Nodup) (hi : X.N[i]? = some n) (hln : X.env.kindOf n = some .local) (hc1 : Names X x1 c1) (hc2 : Names X x2 c2) (tk : Takes X Wout)
    (hb : ∀ (W : WX) (pn : List (Addr × Obj)) (xe : Value → Shared → Prop), Takes (X.tr pn xe) W → PassesOwn (model X.prog X.w) X.A X.env xe → PSs (X.tr pn xe) body (tb W))
    (hsu : ∀ (a : Addr) (oe : Obj) (cls : Value) (d : Option Addr) (pn : List (Addr × Obj)), Zc cls d oe → (∃ vs, oe.data = .fields vs) → PSs (X.suite a ((a, oe) :: pn)) (b₀ :: suite) (ts a cls d)) :
    PS X (.Try body [.ExceptHandler (some (.Tuple [.Name x1 p1, .Name x2 p2] kk p3)) (some n) (b₀ :: suite) pos'] [] [] pos) (fun D σ H => tb (asTwo X.K c1 c2 i ts Wout D) D σ H) := by
  refine ⟨fun pins s σ H D I h => wpAny_Try_except ?_⟩
  have ok := I.ok
  refine wpAny_mono ((hb (asTwo X.K c1 c2 i ts Wout D) (X.pn ++ pins) (fun e s1 => wpAny (model X.prog X.w) X.A (noteFrame e X.env) (fun _ s2 => wpAny (model X.prog X.w) X.A (setFlight e none) (fun _ s3 =>
    wpAny (model X.prog X.w) X.A (handleBy e X.env [.ExceptHandler (some (.Tuple [.Name x1 p1, .Name x2 p2] kk p3)) (some n) (b₀ :: suite) pos']) (SP X pins D) X.xe s3) X.xe s2) X.xe s1) (fun u s' xx => ?_) PassesOwn.looking).run [] s σ H D (I.toTry _) h) (fun f s1 hsp => ?_) (fun _ _ he => he)
  · obtain ⟨a, B, sI, pins', σ', H', cls, d, rfl, J', nb, up, sky, na, os, ag, b, hb1, hyes, hno⟩ := xx
    have J : Inv X pins σ' H' sI := J'.ofTry ok
    rw [hs] at sky
    show wpAny (model X.prog X.w) X.A (noteFrame (.ref a) X.env) _ _ _
    refine Sky.land Zc.steady (by rw [ok.frames, hs]) hf sky fun h3 fl3 up3 => ?_
    have J3 : Inv X pins σ' H' { s' with heap := h3 } := J.landed nb fl3.1 (up.trans up3) os ag
    obtain ⟨oe3, vs3, he3, hz3, hd3⟩ := fl3.there
    have out : a ∉ frs (X.env :: X.outer) := fun hm => by
      obtain ⟨_, o1, g1, g2⟩ := fl3.2.2.1.mem hm
      rw [he3] at g1
      cases g1
      exact g2 _ hd3
    have nL : a ≠ X.env.locals := fun z => out (List.mem_filterMap.mpr ⟨_, List.mem_cons_self, by rw [hf, z]⟩)
    have nF : a ∉ X.fs := fun hm => let ⟨e, he, q⟩ := List.mem_filterMap.mp hm; out (List.mem_filterMap.mpr ⟨e, List.mem_cons_of_mem _ he, q⟩)
    have S3 := J3.suite he3 hd3 na nL nF
    refine wpAny_handleBy_cons (codeAny_handlers_test ?_) (by intro q; cases q)
    have name : ∀ {x : Str} {c : Value} {p : Pos} (_ : Names X x c) {Q E : Value → Shared → Prop} (_ : Q c { s' with heap := h3 }), wpAny (model X.prog X.w) (X.A.mark (some (.ref a))) (eval (.Name x p) X.env) Q E { s' with heap := h3 } := by
      intro x c p hc Q E q
      rcases hc with ⟨hg, hdbg, hm | ⟨hm, hv, hnn⟩⟩
      · exact ld_glob (X := X.suite a ((a, oe3) :: (X.pn ++ pins))) S3 hg hm q hdbg
      · exact ld_blt (X := X.suite a ((a, oe3) :: (X.pn ++ pins))) S3 hg hm hv q hnn hdbg
    refine wpAny_Tuple (wpAny_items_cons (name hc1 (wpAny_items_cons (name hc2 (wpAny_items_nil ⟨by size_fits, ?_⟩)))))
    have kp : ∀ q o, h3.get? q = some o → (h3.push { cls := .type "tuple", data := .seq [c1, c2].toArray }).get? q = some o := fun _ _ z => Heap.get?_push_of_some _ z
    have LT : PySem.W.Looks (model X.prog X.w) (h3.push { cls := .type "tuple", data := .seq [c1, c2].toArray }) (typeOf (.ref a)) cls := fun A Q E s k q => wpAny_typeOf_ref (k _ _ (kp _ _ he3)) (by rw [hz3.1]; exact q)
    have flp := fly_push fl3 { cls := .type "tuple", data := .seq [c1, c2].toArray }
    have upp := (up.trans up3).trans (Heap.UpToSlots.of_keeps kp)
    refine (PySem.W.exm_tup2 (M := model X.prog X.w) (J3.kIn.keeps kp) LT (Heap.get?_push_size h3 rfl) hb1).here ?_
    cases b with
    | true =>
      refine codeAny_handlers_suite_as (HandSPX.lands_againZ flp fun h4 fl4 up4 => ?_)
      have J4 : Inv X pins σ' H' { s' with heap := h4 } := J.landed nb fl4.1 (upp.trans up4) os ag
      obtain ⟨oe4, vs4, he4, hz4, hd4⟩ := fl4.there
      refine store_ok (X := X.suite a ((a, oe4) :: (X.pn ++ pins))) (v := .ref a) (J4.suite he4 hd4 na nL nF) hN hi (.inl hln) rfl (fun s5 S5 => ?_) (.inr hln)
      refine wpAny_mono ((hsu a oe4 cls d (X.pn ++ pins) hz4 ⟨_, hd4⟩).run [] s5 _ H' _ S5 (hyes rfl a na)) (fun f s6 hsp => ?_) (fun _ _ z => False.elim z)
      have fin : ∀ {σ6 : L2.St} {H6 : Hp} {Q : Shared → Prop}, Inv (X.suite a ((a, oe4) :: (X.pn ++ pins))) [] σ6 H6 s6 → (∀ s7, Inv X pins (σ6.set i none) H6 s7 → Q s7) →
          wpAny (model X.prog X.w) X.A (do bindName X.env n .none; unbindBehindTheSuite X.env n pos') (fun _ s7 => Q s7) X.xe s6 := fun S6 hq => gone_ok (S6.unsuite ok) hN hi hln hq
      cases f with
      | ret u => let ⟨v6, σ6, H6, S6, r6, q6⟩ := hsp; exact fin S6 fun s7 J7 => ⟨_, _, _, J7, r6, q6⟩
      | next => let ⟨σ6, H6, S6, q6⟩ := hsp; exact fin S6 fun s7 J7 => ⟨_, _, J7, q6⟩
      | brk => let ⟨σ6, H6, S6, q6⟩ := hsp; exact fin S6 fun s7 J7 => ⟨_, _, J7, q6⟩
      | cont => let ⟨σ6, H6, S6, q6⟩ := hsp; exact fin S6 fun s7 J7 => ⟨_, _, J7, q6⟩
    | false =>
      show wpAny _ X.A (handleBy (.ref a) X.env []) _ _ _
      refine wpAny_handleBy_nil ?_
      have far : wpAny (model X.prog X.w) X.A (setFlight (.ref a) X.env.frame) (fun _ s4 => wpAny (model X.prog X.w) X.A (throw (.ref a) : Sem Flow) (SP X pins D) X.xe s4) X.xe { s' with heap := h3.push { cls := .type "tuple", data := .seq [c1, c2].toArray } } := by
        rw [hf]
        exact HandSPX.setFlight_upZ flp fun h4 hh4 up4 => wpAny_throw (tk _ _ ⟨a, B, sI, pins, σ', H', cls, d, rfl, J, nb, upp.trans up4, .inr (.inr (by rw [hs]; exact hh4)), na, os, ag, hno rfl⟩)
      obtain ⟨_, _, _, oe, vs, T, oT, ts', he, hz, hd, h1, _⟩ := id flp
      unfold PySem.passOn
      refine wpAny_bind (wpAny_field he hd h1 ?_)
      rw [if_neg (show ¬ ((Value.ref T == Value.none) = true) from by simp)]
      first
        | exact wpAny_bind (wpAny_pure (wpAny_bind far))
        | exact wpAny_bind far
  · cases f with
    | ret u => let ⟨v, σ', H', J', r, q⟩ := hsp; exact ⟨v, σ', H', J'.ofTry ok, r, q⟩
    | next => let ⟨σ', H', J', q⟩ := hsp; exact wpAny_execs_nil ⟨σ', H', J'.ofTry ok, q⟩
    | brk => let ⟨σ', H', J', q⟩ := hsp; exact ⟨σ', H', J'.ofTry ok, q⟩
    | cont => let ⟨σ', H', J', q⟩ := hsp; exact ⟨σ', H', J'.ofTry ok, q⟩
end
section
variable [Tbs] {X : Cx} {C : Ct} {P : List Nat} {x1 x2 n : Str} {c1 c2 : Value} {i : Nat} {body suite : List Stmt} {b₀ : Stmt} {p1 p2 p3 pos pos' : Pos} {kk : Nat} {mb ms : M Out} {hit : Xc → Bool}
theorem s_try_two (hs : X.stack = X.env :: X.outer) (hf : X.env.frame = some X.env.locals) (hN : X.N.Nodup) (hi : X.N[i]? = some n) (hln : X.env.kindOf n = some .local) (hc1 : Names X x1 c1) (hc2 : Names X x2 c2) (tk : Takes X C.W)
    (hit1 : ∀ F H cls d y, C.XR F H cls d y → PySem.W.exmAny X.K cls [c1, c2] = some (hit y)) (hXR : ∀ F H cls d y, C.XR F H cls d y → XRof C.K F H cls d y)
    (hb : ∀ (W : WX) (pn : List (Addr × Obj)) (xe : Value → Shared → Prop), Takes (X.tr pn xe) W → PSs (X.tr pn xe) body (tS { C with W := W } P mb))
    (hsu : ∀ (a : Addr) (oe : Obj) (pn : List (Addr × Obj)), (∃ vs, oe.data = .fields vs) → PSs (X.suite a ((a, oe) :: pn)) (b₀ :: suite) (tS ⟨⟨X.K, X.w, X.mg, some (a, oe), C.K.lam⟩, fun _ _ _ _ => False, C.XR⟩ P ms))
    (hPi : i ∉ P := by decide) (hK : (⟨X.K, X.w, X.mg, none, C.K.lam⟩ : Kw) = C.K := by rfl) :
    PS X (.Try body [.ExceptHandler (some (.Tuple [.Name x1 p1, .Name x2 p2] kk p3)) (some n) (b₀ :: suite) pos'] [] [] pos) (tS C P (sTryAs i hit mb ms)) := by
  refine ⟨fun pins s σ H D I ⟨F, ρ, sr, q⟩ => (ps_try_two (tb := fun W => tS { C with W := W } P mb) (ts := fun a cls d D σ H => ∀ oe, Zc cls d oe → tS ⟨⟨X.K, X.w, X.mg, some (a, oe), C.K.lam⟩, fun _ _ _ _ => False, C.XR⟩ P ms D σ H) hs hf hN hi hln hc1 hc2 tk (fun W pn xe tw _ => hb W pn xe tw)
    (fun a oe cls d pn hz hfl => ⟨fun pins s σ H D I h => (hsu a oe pn hfl).run pins s σ H D I (h oe hz)⟩)).run pins s σ H D I ?_⟩
  have li : i < σ.length := by rw [I.len]; exact (List.getElem?_eq_some_iff.mp hi).1
  have kf : C.K.fr = X.K := by rw [← hK]
  have kw : C.K.w = X.w := by rw [← hK]
  have km : C.K.mg = X.mg := by rw [← hK]
  have ke : C.K.exn = none := by rw [← hK]
  refine ⟨F, ρ, sr, ?_⟩
  unfold sTryAs at q
  cases e1 : mb ρ with
  | bad => rw [e1] at q; exact q
  | ok o ρ1 => rw [e1] at q; cases o <;> exact q
  | ex y ρ1 =>
    rw [e1] at q
    simp only at q
    intro F' H' σ' cls d g s' pr xr
    refine ⟨hit y, hit1 _ _ _ _ _ xr, fun h a na oe hz => ?_, fun h => ?_⟩
    · rw [if_pos h] at q
      obtain ⟨Cl, dd, vs, hm, rfl, rfl, hF, dv⟩ := hXR _ _ _ _ _ xr
      have li' : i < σ'.length := by rw [pr.1]; exact li
      have s1 : SR ⟨X.K, X.w, X.mg, some (a, oe), C.K.lam⟩ F' H' σ' ρ1 := SR.to (K' := ⟨X.K, X.w, X.mg, some (a, oe), C.K.lam⟩) kf kw rfl s' fun j o hj => s'.noEn ke hj
      have or1 : OR ⟨X.K, X.w, X.mg, some (a, oe), C.K.lam⟩ F' H' (.ref a) (.en y.cls y.flds) := ⟨a, Cl, dd, oe, vs, rfl, rfl, by show X.mg y.cls = _; rw [← km]; exact hm, hz, hF, dv.to kf⟩
      have s2 := s1.store li' or1 (fun io => nomatch io)
      refine ⟨F', _, s2, ?_⟩
      have oe1 : ∀ b, own (σ'.set i (some (.ref a))) (ρ1.set i (some (.en y.cls y.flds))) b → own σ' ρ1 b := fun b z => own.en z
      have prs : ∀ {σ2 : L2.St}, Pres (σ'.set i (some (V.ref a))) σ2 P → Pres σ (σ2.set i none) P := fun {σ2} z => ⟨by rw [List.length_set, z.1, List.length_set]; exact pr.1, fun p hp => by
        have ne : i ≠ p := fun e => hPi (by rw [e]; exact hp)
        rw [List.getElem?_set_ne ne, z.2 p hp, List.getElem?_set_ne ne]
        exact pr.2 p hp⟩
      cases e2 : ms (ρ1.set i (some (.en y.cls y.flds))) with
      | bad => rw [e2] at q; exact q
      | ex x ρ' => rw [e2] at q; exact q.elim
      | ok o ρ2 =>
        rw [e2] at q
        have back : ∀ {F2 H2 : Hp} {σ2 : L2.St}, SR ⟨X.K, X.w, X.mg, some (a, oe), C.K.lam⟩ F2 H2 σ2 ρ2 → noEn (ρ2.set i none) = true → SR C.K F2 H2 (σ2.set i none) (ρ2.set i none) := fun s3 ne => SR.to (K := ⟨X.K, X.w, X.mg, some (a, oe), C.K.lam⟩) (K' := C.K) kf.symm kw.symm rfl (s3.unset i) fun j o hj => noEn_at ne hj
        have gr : ∀ {F2 H2 : Hp} {σ2 : L2.St}, Grow (own (σ'.set i (some (.ref a))) (ρ1.set i (some (.en y.cls y.flds)))) (own σ2 ρ2) F' H' F2 H2 → Grow (own σ ρ) (own (σ2.set i none) (ρ2.set i none)) F H F2 H2 := fun g2 => g.trans ((g2.wide' oe1).less fun b z => own.unset z)
        cases o with
        | nx =>
          simp only [endAs] at q
          split at q
          · rename_i ne
            exact fun F2 H2 σ2 g2 s3 p2 => q F2 H2 _ (gr g2) (back s3 ne) (prs p2)
          · exact q.elim
        | bk =>
          simp only [endAs] at q
          split at q
          · rename_i ne
            exact fun F2 H2 σ2 g2 s3 p2 => q F2 H2 _ (gr g2) (back s3 ne) (prs p2)
          · exact q.elim
        | ct =>
          simp only [endAs] at q
          split at q
          · rename_i ne
            exact fun F2 H2 σ2 g2 s3 p2 => q F2 H2 _ (gr g2) (back s3 ne) (prs p2)
          · exact q.elim
        | rt r =>
          simp only [endAs] at q
          split at q
          · rename_i ne
            rw [Bool.and_eq_true, Bool.not_eq_true'] at ne
            intro F2 H2 σ2 v g2 s3 p2 r1 r2
            refine q F2 H2 _ v (gr g2) (back s3 ne.1) (prs p2) (OR.to (K := ⟨X.K, X.w, X.mg, some (a, oe), C.K.lam⟩) (K' := C.K) kf.symm kw.symm rfl ne.2 r1) fun io b eb => ?_
            obtain ⟨k1, k2⟩ := r2 io b eb
            refine ⟨fun z => k1 (own.unset z), ?_⟩
            rcases k2 with k2 | k2
            · exact g.back k2
            · exact (g.ows b (oe1 b k2)).symm
          · exact q.elim
    · rw [if_neg (by rw [h]; decide)] at q
      exact q F' H' σ' cls d g s' pr xr
end
end Eg
namespace Eg
open PySem L2 PySem.W PySem.SeqAt PySem.Spec PyProof.Rows
structure IsC (K : PySem.W.Frag) (D : Addr) : Prop where
  cl : (PySem.W.clsIn K D).isSome = true
  ga : PySem.W.findIn K (.ref D) "__getattribute__" = some (some (.builtin "BaseException.__getattribute__"))
  gg : PySem.W.findIn K (.ref D) "__getattr__" = some none
  su : PySem.W.subIn K (.ref D) (.type "BaseException") = some true
  at_ : PySem.W.findIn K (.ref D) "__class__" = some (some (.builtin "object.__class__"))
  ge : PySem.W.specialIn K (.builtin "object.__class__") "__get__" = some (some (.builtin "getset_descriptor.__get__"))
  tk : PySem.W.takesIn K (.builtin "object.__class__") = some true
  mr : PySem.W.mroIn K D (.type "object") = some true
def rIsX (K : PySem.W.Frag) (a : Addr) (oe : Obj) : List V → Hp → VK → Prop := fun xs H Q => ∃ (D dd : Addr) (fs : List (Str × V)) (c : V) (cv : Value) (b : Bool),
  xs = [.ref a, c] ∧ (∀ u, RelV c u → u = cv) ∧ IsC K D ∧ Zc (.ref D) (some dd) oe ∧ H dd = some (.xd fs) ∧ PySem.W.kitOne K (.ref D) cv = some b ∧ Q (.bl b) H
def rIsXs (K : PySem.W.Frag) (a : Addr) (oe : Obj) : List V → Hp → VK → Prop := fun xs H Q => ∃ (D dd tp : Addr) (fs : List (Str × V)) (cs : List V) (cvs : List Value) (b : Bool),
  xs = [.ref a, .ref tp] ∧ H tp = some (.tup cs) ∧ (∀ us, Vals cs us → us = cvs) ∧ IsC K D ∧ Zc (.ref D) (some dd) oe ∧ H dd = some (.xd fs) ∧ PySem.W.kitAny K (.ref D) cvs = some b ∧ Q (.bl b) H
section
variable {X : Cx} {a : Addr} {oe : Obj} {pn : List (Addr × Obj)}
theorem inst_of {pins : List (Addr × Obj)} {σ : L2.St} {H : Hp} {s : Shared} {D dd : Addr} {fs : List (Str × V)} (hf : ∃ vs, oe.data = .fields vs) (I : Inv (X.suite a ((a, oe) :: pn)) pins σ H s) (hz : Zc (.ref D) (some dd) oe) (hd : H dd = some (.xd fs)) :
    ∃ od, PySem.W.InstAt s.heap a oe D (some od) := by
  obtain ⟨ha, _⟩ := I.pin (a, oe) (List.mem_append_left _ List.mem_cons_self)
  obtain ⟨vs, hv⟩ := hf
  have hx : ObjOk X.prog X.w H s.heap dd (.xd fs) := I.hok dd _ hd
  obtain ⟨mA, hns, _⟩ := hx
  obtain ⟨od, ho, _⟩ := lookIn_ns hns
  exact ⟨od, ha, hz.1, by unfold PySem.W.notCls; rw [hv] <;> rfl, by rw [hz.2]; exact ho⟩
theorem call_isX (hf : ∃ vs, oe.data = .fields vs) : CallR (X.suite a ((a, oe) :: pn)) (.builtin "isinstance") (rIsX X.K a oe) := by
  intro pins s σ H xs us Q I r ⟨D, dd, fs, c, cv, b, e, hcv, C, hz, hd, hk, q⟩
  subst e
  match us, r with
  | [u, v], .cons rx (.cons rt .nil) =>
    obtain rfl : u = Value.ref a := rx
    obtain rfl := hcv _ rt
    obtain ⟨od, J⟩ := inst_of hf I hz hd
    exact PySem.W.kia_one (PySem.W.kitx_exc C.cl C.ga C.gg C.su C.at_ C.ge C.tk C.mr) I.kIn J hk (fun z => nomatch z) fun tk => ⟨.bl b, H, I.kept (t' := tk) fun _ _ z => z, rfl, q⟩
theorem call_isXs (hf : ∃ vs, oe.data = .fields vs) : CallR (X.suite a ((a, oe) :: pn)) (.builtin "isinstance") (rIsXs X.K a oe) := by
  intro pins s σ H xs us Q I r ⟨D, dd, tp, fs, cs, cvs, b, e, ht, hcv, C, hz, hd, hk, q⟩
  subst e
  match us, r with
  | [u, v], .cons rx (.cons rt .nil) =>
    obtain rfl : u = Value.ref a := rx
    obtain rfl : v = Value.ref tp := rt
    obtain ⟨od, J⟩ := inst_of hf I hz hd
    have hx : ObjOk X.prog X.w H s.heap tp (.tup cs) := I.hok tp _ ht
    obtain ⟨_, its, hv, ob, hg, hc, n, hdt⟩ := hx
    obtain rfl := hcv _ hv
    obtain ⟨oc, od', oda, osl⟩ := ob
    dsimp only at hc hdt
    subst hc hdt
    exact PySem.W.kia_tup (PySem.W.kitx_exc C.cl C.ga C.gg C.su C.at_ C.ge C.tk C.mr) I.kIn J hg hk (fun z => nomatch z) fun tk => ⟨.bl b, H, I.kept (t' := tk) fun _ _ z => z, rfl, q⟩
end
def mIsE (i : Nat) (nms : List Str) (sub : Str → Bool) : M PyData := fun ρ => match ρ[i]? with
  | some (some (.en nm _)) => if nm ∈ nms then .ok (.bool (sub nm)) ρ else .bad
  | _ => .bad
section
variable [Tbs] {X : Cx} {a : Addr} {oe : Obj} {pn : List (Addr × Obj)} {i : Nat} {n : Str} {nms : List Str} {sub : Str → Bool} {W : WX} {XR : Hp → Hp → Value → Option Addr → Xc → Prop} {p1 p2 p3 pos : Pos} {li : Option LamI} {cE : Expr} {c : V} {cv : Value}
theorem d_isE (hf : ∃ vs, oe.data = .fields vs) (hT : ∀ nm ∈ nms, ∀ Cl, X.mg nm = some (.ref Cl) → IsC X.K Cl ∧ PySem.W.kitOne X.K (.ref Cl) cv = some (sub nm)) (hi : X.N[i]? = some n) (hv : Vis X.env.scope n) (hg : Gl (X.suite a ((a, oe) :: pn)) "isinstance") (hm : X.mg "isinstance" = none)
    (hc : PE (X.suite a ((a, oe) :: pn)) cE (tC c)) (hcv : ∀ u, RelV c u → u = cv) (hd : (n == ("__debug__" : Str)) = false := by decide) (hcd : (n == ("__classdict__" : Str)) = false := by decide)
    (he : starEach [.Name n p2, cE] X.env = (false, eval (.Name n p2) X.env) :: starEach [cE] X.env := by rfl) (he2 : starEach [cE] X.env = [(false, eval cE X.env)] := by rfl) :
    PE (X.suite a ((a, oe) :: pn)) (.Call (.Name "isinstance" p1) [.Name n p2, cE] [] pos) (tD ⟨⟨X.K, X.w, X.mg, some (a, oe), li⟩, W, XR⟩ (mIsE i nms sub)) := by
  refine (pe_callB (X := X.suite a ((a, oe) :: pn)) (call_isX hf) hg hm b_isi (pa_cons (pe_var (X := X.suite a ((a, oe) :: pn)) (i := i) hi hv hd hcd) (pa_cons hc pa_nil (by exact he2)) he) (he := he) (hpl := by show (backTo pos (starEach [cE] X.env)).any (·.1) = false; rw [he2]; rfl)).imp fun σ H Q ⟨F, ρ, sr, q⟩ => ?_
  unfold mIsE at q
  cases e1 : ρ[i]? with
  | none => rw [e1] at q; exact q.elim
  | some o =>
    rw [e1] at q
    cases o with
    | none => exact q.elim
    | some o =>
      cases o with
      | en nm flds =>
        simp only at q
        split at q
        · rename_i cnd
          obtain ⟨v, hs, a', Cl, dd, oe', vs, rfl, hex, hmg, hz, hF, dv⟩ := sr.sl i _ e1
          cases hex
          obtain ⟨T, hk⟩ := hT nm cnd Cl hmg
          exact ⟨_, hs, Cl, dd, _, c, cv, sub nm, rfl, hcv, T, hz, sr.sub _ _ hF, hk, q F H _ Grow.refl sr (.bl _)⟩
        · exact q.elim
      | _ => exact q.elim
end
theorem cs_nil {X : Cx} : PA X [] (fun _ H Q => Q [] H) := ⟨fun pos pins s σ H Q I p => pa_nil.run pos pins s σ H Q I p⟩
theorem cs_cons {X : Cx} {e : Expr} {es : List Expr} {c : V} {cs : List V} (h : PE X e (tC c)) (hr : PA X es (fun _ H Q => Q cs H)) (hs : starEach (e :: es) X.env = (false, eval e X.env) :: starEach es X.env := by rfl) : PA X (e :: es) (fun _ H Q => Q (c :: cs) H) :=
  ⟨fun pos pins s σ H Q I p => (pa_cons h hr hs).run pos pins s σ H Q I p⟩
section
variable [Tbs] {X : Cx} {a : Addr} {oe : Obj} {pn : List (Addr × Obj)} {i : Nat} {n : Str} {nms : List Str} {sub : Str → Bool} {W : WX} {XR : Hp → Hp → Value → Option Addr → Xc → Prop} {p1 p2 p3 pos : Pos} {li : Option LamI} {es : List Expr} {kk : Nat} {cs : List V} {cvs : List Value}
theorem d_isEs (hf : ∃ vs, oe.data = .fields vs) (hT : ∀ nm ∈ nms, ∀ Cl, X.mg nm = some (.ref Cl) → IsC X.K Cl ∧ PySem.W.kitAny X.K (.ref Cl) cvs = some (sub nm)) (hi : X.N[i]? = some n) (hv : Vis X.env.scope n) (hg : Gl (X.suite a ((a, oe) :: pn)) "isinstance") (hm : X.mg "isinstance" = none)
    (hc : PA (X.suite a ((a, oe) :: pn)) es (fun _ H Q => Q cs H)) (hl : cs.length ≤ 1000) (hcv : ∀ us, Vals cs us → us = cvs) (hd : (n == ("__debug__" : Str)) = false := by decide) (hcd : (n == ("__classdict__" : Str)) = false := by decide)
    (he : starEach [.Name n p2, .Tuple es kk p3] X.env = (false, eval (.Name n p2) X.env) :: starEach [.Tuple es kk p3] X.env := by rfl) (he2 : starEach [.Tuple es kk p3] X.env = [(false, eval (.Tuple es kk p3) X.env)] := by rfl) :
    PE (X.suite a ((a, oe) :: pn)) (.Call (.Name "isinstance" p1) [.Name n p2, .Tuple es kk p3] [] pos) (tD ⟨⟨X.K, X.w, X.mg, some (a, oe), li⟩, W, XR⟩ (mIsE i nms sub)) := by
  have z := sizeLine_eq
  refine (pe_callB (X := X.suite a ((a, oe) :: pn)) (call_isXs hf) hg hm b_isi (pa_cons (pe_var (X := X.suite a ((a, oe) :: pn)) (i := i) hi hv hd hcd) (pa_cons (pe_tup hc) pa_nil (by exact he2)) he) (he := he) (hpl := by show (backTo pos (starEach [.Tuple es kk p3] X.env)).any (·.1) = false; rw [he2]; rfl)).imp fun σ H Q ⟨F, ρ, sr, q⟩ => ?_
  unfold mIsE at q
  cases e1 : ρ[i]? with
  | none => rw [e1] at q; exact q.elim
  | some o =>
    rw [e1] at q
    cases o with
    | none => exact q.elim
    | some o =>
      cases o with
      | en nm flds =>
        simp only at q
        split at q
        · rename_i cnd
          obtain ⟨v, hs, a', Cl, dd, oe', vs, rfl, hex, hmg, hz, hF, dv⟩ := sr.sl i _ e1
          cases hex
          obtain ⟨T, hk⟩ := hT nm cnd Cl hmg
          have hdd := sr.sub _ _ hF
          refine ⟨_, hs, by omega, fun tp htp => ?_⟩
          have h2 : ∀ u : HO, upd H tp u dd = _ := fun u => (upd_ne (fun z => by rw [z, htp] at hdd; cases hdd)).trans hdd
          exact ⟨Cl, dd, tp, _, cs, cvs, sub nm, rfl, upd_same, hcv, T, hz, h2 _, hk, q F _ _ (Grow.fresh htp) (sr.fresh htp) (.bl _)⟩
        · exact q.elim
      | _ => exact q.elim
end
end Eg
namespace Eg
open PySem L2 PySem.W PySem.SeqAt PySem.Spec PyProof.Rows
def cntOk (xs : List PyData) (d : PyData) : Bool := PyData.plainAll xs && d.plain && decide (d.depth ≤ 60)
def cntO (x : Option (Option OD)) (d : PyData) : M PyData := fun ρ => match x with
  | some (some (.ol xs)) => if cntOk xs d = true then .ok (.int ((xs.countP fun y => PyData.eqv y d : Nat) : Int)) ρ else .bad
  | _ => .bad
def mCount (i : Nat) (m : M PyData) : M PyData := m.bind fun d => fun ρ => cntO ρ[i]? d ρ
section
variable [Tbs] {X : Cx} {C : Ct} {e o : Expr} {apos cpos : Pos}
theorem mt_count (hu : X.A.units + 64 < cLine) : MtM X "list.count" (fun x vs H Q => ∃ l ws y, x = .ref l ∧ vs = [y] ∧ H l = some (.lst ws) ∧ ∃ (F : Hp) (xs : List PyData) (d : PyData), Same F H ∧ DVs X.KW F ws xs ∧ DV X.KW F y d ∧ cntOk xs d = true ∧ Q (.int ((xs.countP fun y => PyData.eqv y d : Nat) : Int)) H) := by
  intro pins s σ H x vs v us Q I rx rv ⟨l, ws, y, e1, e2, hH, F, xs, d, sub, dws, dy, ok, q⟩
  subst e1 e2
  obtain rfl : v = Value.ref l := rx
  obtain ⟨u, rfl, ru⟩ := rv.one
  obtain ⟨z, its, n, r, hl, e⟩ := I.lstM hH
  obtain ⟨as, rs⟩ := dvs_reads I sub dws r
  obtain ⟨bs, rd⟩ := (DV.mono sub dy).reads I ru
  unfold cntOk at ok
  simp only [Bool.and_eq_true, decide_eq_true_eq] at ok
  obtain ⟨⟨o1, o2⟩, o3⟩ := ok
  have il : s.heap.IsList l its.toArray := ⟨_, e, rfl, _, rfl⟩
  refine count_list_data il (by exact rs) rd o1 o2 ?_ ⟨.int ((xs.countP fun y => PyData.eqv y d : Nat) : Int), H, I.tok _, ⟨_, rfl⟩, q⟩
  have := Nat.min_le_right (PyData.depthAll xs) d.depth
  omega
theorem x_count {i : Nat} {m : M PyData} (hu : X.A.units + 64 < cLine) (ho : PE X o (tVar i)) (he : PE X e (tD C m)) (hK : X.KW = C.K := by rfl)
    (hbase : attributeBase o "count" X.env (eval o X.env) = eval o X.env := by rfl)
    (hfew : ((backTo cpos (starEach [e] X.env)).all (fun z => !z.1) && (backToKw cpos (keywordEach [] X.env)).all (fun z => z.1.isSome)
      && decide ([e].length + ([] : List Keyword).length + (if ([] : List Keyword).isEmpty then 0 else 1) < 30)) = true := by rfl)
    (hline : (apos.endLine == cpos.line) = true := by rfl) (hs : starEach [e] X.env = (false, eval e X.env) :: starEach [] X.env := by rfl) :
    PE X (.Call (.Attribute o "count" apos) [e] [] cpos) (tD C (mOl i (mCount i m))) := by
  refine (pe_bm PySem.F.plainAttrs_list PySem.F.slot_list_count PySem.F.type_list_count (mt_count hu) ho (pa_cons he pa_nil hs) hbase hfew hline hs rfl).imp fun σ H Q ⟨F, ρ, sr, p⟩ => ?_
  unfold mOl at p
  split at p
  · rename_i hi
    obtain ⟨xs, ex⟩ := isOl_at hi
    obtain ⟨v, hv, a, vs, rfl, h1, h2, h3⟩ := sr.sl i _ ex
    refine ⟨_, hv, .inl ⟨rfl, vs, SqL.of h2⟩, F, ρ, sr, p.part fun d ρ1 F1 H1 y e1 q1 g1 s1 r1 => ?_⟩
    have q1 := q1.on stb_D g1
    cases q : ρ1[i]? with
    | none => simp only [q, cntO] at q1; exact q1.elim
    | some oo =>
      cases oo with
      | none => simp only [q, cntO] at q1; exact q1.elim
      | some oo =>
        cases oo with
        | ol ys =>
          simp only [q, cntO] at q1
          split at q1
          · rename_i hz
            obtain ⟨v', hv', b, ws, e2, k1, k2, k3⟩ := s1.sl i _ q
            rw [hv] at hv'; cases hv'; cases e2
            exact ⟨a, ws, y, rfl, rfl, k2, F1, ys, d, s1.sub, hK ▸ k3, hK ▸ r1, hz, q1 F1 H1 _ Grow.refl s1 (.int _)⟩
          · exact q1.elim
        | _ => simp only [q, cntO] at q1; exact q1.elim
  · exact p.elim
end
section
variable {ρ : Rho}
theorem v_count (i : Nat) (m : M PyData) : mCount i m ρ = (m ρ).go fun d ρ => cntO ρ[i]? d ρ := rfl
theorem v_cntO {xs : List PyData} {d : PyData} (h : cntOk xs d = true) : cntO (some (some (.ol xs))) d ρ = .ok (.int ((xs.countP fun y => PyData.eqv y d : Nat) : Int)) ρ := if_pos h
theorem v_isE (i : Nat) (nms : List Str) (sub : Str → Bool) {nm : Str} {flds : List (Str × PyData)} (h : ρ[i]? = some (some (.en nm flds))) (h2 : nm ∈ nms) : mIsE i nms sub ρ = .ok (.bool (sub nm)) ρ := by
  unfold mIsE
  rw [h]
  exact if_pos h2
end
end Eg
namespace Eg
open PySem L2 PySem.W PySem.SeqAt PySem.Spec PyProof.Rows
section
variable {X : Cx} {x1 n : Str} {c1 : Value} {i : Nat} {body suite : List Stmt} {b₀ : Stmt} {p1 pos pos' : Pos} {rest : List ExceptHandler} {tb : WX → TS} {ts : Addr → Value → Option Addr → TS}
end
section
variable [Tbs] {X : Cx} {C : Ct} {P : List Nat} {x1 n : Str} {c1 : Value} {i : Nat} {body suite : List Stmt} {b₀ : Stmt} {p1 pos pos' : Pos} {rest : List ExceptHandler} {mb ms : M Out} {hit : Xc → Bool}
end
end Eg
namespace Eg
open PySem L2 PySem.W PySem.SeqAt PySem.Spec PyProof.Rows
section
variable [Tbs] {X : Cx} {C : Ct} {e o : Expr} {apos cpos : Pos}
end
section
variable {ρ : Rho}
end
end Eg
namespace Eg
open PySem L2 PySem.W PySem.SeqAt PySem.Spec PyProof.Rows
def clrO : Option OD → Option OD
  | some (.lam _) => none
  | o => o
def clr (ρ : Rho) : Rho := ρ.map clrO
def mClr (ms : M Out) : M Out := fun ρ => ms (clr ρ)
section
variable [Tbs] {K : Kw} {F H : Hp} {l : Option LamI}
theorem clr_at {ρ : Rho} {i : Nat} {o : OD} (h : (clr ρ)[i]? = some (some o)) : ρ[i]? = some (some o) ∧ ∀ caps, o ≠ .lam caps := by
  unfold clr at h
  rw [List.getElem?_map] at h
  cases q : ρ[i]? with
  | none => rw [q] at h; cases h
  | some r =>
    rw [q] at h
    cases r with
    | none => cases h
    | some r =>
      cases r <;> first | (cases h; exact ⟨rfl, fun _ z => by cases z⟩) | cases h
theorem OR.lamNo {v : V} {o : OD} (n : ∀ caps, o ≠ .lam caps) (h : OR K F H v o) : OR { K with lam := l } F H v o := by
  have ef : K.fr = ({ K with lam := l } : Kw).fr := rfl
  cases o with
  | sh d => exact DV.to ef h
  | sc ns => exact h
  | ol xs => obtain ⟨a, vs, rfl, h1, h2, h3⟩ := h; exact ⟨a, vs, rfl, h1, h2, h3.to ef⟩
  | od kvs => obtain ⟨a, vs, rfl, h1, h2, h3⟩ := h; exact ⟨a, vs, rfl, h1, h2, h3.to ef⟩
  | kd kvs => obtain ⟨a, vs, rfl, h1, h2, h3⟩ := h; exact ⟨a, vs, rfl, h1, h2, h3.to ef⟩
  | sd kvs => obtain ⟨a, vs, rfl, h1, h3⟩ := h; exact ⟨a, vs, rfl, h1, h3.to ef⟩
  | sn kvs => obtain ⟨a, vs, rfl, h1, h3⟩ := h; exact ⟨a, vs, rfl, h1, h3.to ef⟩
  | en nm fl => obtain ⟨a, Cl, dd, oe, vs, e1, e2, e3, e4, e5, e6⟩ := h; exact ⟨a, Cl, dd, oe, vs, e1, e2, e3, e4, e5, e6.to ef⟩
  | lam caps => exact absurd rfl (n caps)
  | fn nm => exact h
  | ts os => obtain ⟨a, vs, rfl, h1, h2⟩ := h; exact ⟨a, vs, rfl, h1, h2.to ef⟩
theorem SR.clr {σ : L2.St} {ρ : Rho} (s : SR K F H σ ρ) : SR { K with lam := none } F H σ (clr ρ) :=
  ⟨s.sub, by unfold Eg.clr; rw [List.length_map]; exact s.len, fun i o h => by
    obtain ⟨h1, n⟩ := clr_at h
    obtain ⟨v, e1, e2⟩ := s.sl i o h1
    exact ⟨v, e1, e2.lamNo n⟩, fun i j o o' a ne h1 i1 h2 i2 => s.sep i j o o' a ne (clr_at h1).1 i1 (clr_at h2).1 i2, s.tb⟩
theorem own.clr {σ : L2.St} {ρ : Rho} {b : Addr} (h : own σ (clr ρ) b) : own σ ρ b := by
  obtain ⟨j, o, h1, h2, h3⟩ := h
  exact ⟨j, o, (clr_at h1).1, h2, h3⟩
theorem lam_none {v : V} {o : OD} (h : OR { K with lam := none } F H v o) : ∀ caps, o ≠ .lam caps := fun caps e => by
  subst e
  obtain ⟨li, h1, _⟩ := h
  cases h1
theorem SR.unclr {σ : L2.St} {ρ : Rho} (s : SR { K with lam := none } F H σ ρ) : SR K F H σ ρ :=
  ⟨s.sub, s.len, fun i o h => by
    obtain ⟨v, e1, e2⟩ := s.sl i o h
    exact ⟨v, e1, (OR.lamNo (K := { K with lam := none }) (l := K.lam) (lam_none e2) e2)⟩, s.sep, s.tb⟩
omit [Tbs] in
theorem xrLam {F2 H2 : Hp} {cls : Value} {d : Option Addr} {y : Xc} (h : XRof K F2 H2 cls d y) : XRof { K with lam := l } F2 H2 cls d y := by
  obtain ⟨Cl, dd, vs, h1, h2, h3, h4, h5⟩ := h
  exact ⟨Cl, dd, vs, h1, h2, h3, h4, DVs.to (K' := { K with lam := l }) (show K.fr = _ from rfl) h5⟩
variable {X : Cx} {P : List Nat} {ss : List Stmt} {m : M Out} {XR : Hp → Hp → Value → Option Addr → Xc → Prop}
theorem ss_clr (h : PSs X ss (tS ⟨{ K with lam := none }, fun _ _ _ _ => False, XR⟩ P m)) : PSs X ss (tS ⟨K, fun _ _ _ _ => False, XR⟩ P (mClr m)) := by
  refine ⟨fun pins s σ H D I ⟨F, ρ, sr, p⟩ => h.run pins s σ H D I ⟨F, clr ρ, sr.clr, ?_⟩⟩
  unfold mClr at p
  have gr : ∀ {F2 H2 : Hp} {σ2 : L2.St} {ρ2 : Rho}, Grow (own σ (clr ρ)) (own σ2 ρ2) F H F2 H2 → Grow (own σ ρ) (own σ2 ρ2) F H F2 H2 := fun g => g.wide' fun b z => own.clr z
  cases e : m (clr ρ) with
  | bad => rw [e] at p; exact p
  | ex x ρ' => rw [e] at p; exact fun F' H' σ' cls d g s' pr xr => p F' H' σ' cls d (gr g) s'.unclr pr xr
  | ok o ρ' =>
    rw [e] at p
    cases o with
    | nx => exact fun F2 H2 σ2 g s2 pr => p F2 H2 σ2 (gr g) s2.unclr pr
    | bk => exact fun F2 H2 σ2 g s2 pr => p F2 H2 σ2 (gr g) s2.unclr pr
    | ct => exact fun F2 H2 σ2 g s2 pr => p F2 H2 σ2 (gr g) s2.unclr pr
    | rt r =>
      intro F2 H2 σ2 v g s2 pr r1 r2
      refine p F2 H2 σ2 v (gr g) s2.unclr pr (OR.lamNo (K := { K with lam := none }) (l := K.lam) (lam_none r1) r1) fun io b eb => ?_
      obtain ⟨k1, k2⟩ := r2 io b eb
      exact ⟨k1, k2.imp id fun z => own.clr z⟩
end
section
variable {P : Program} {w : World} {K : PySem.W.Frag} {mg : Str → Option Value} {base : Heap} {CX : CXT} {k : Nat}
theorem fnG_ofC {x qual : Str} {st : Stmt} {f : Addr} {fd : FuncData} {N ps : List Str} {sp : Sp} (F : Fun K x qual st f fd) (S : FnScope N ps (defScope st)) (hlen : ∀ vs H Q E, sp vs H Q E → ps.length = vs.length)
    (hb : ∀ (cdv : Value) (A : Around) (outer : List Env) (s : Shared) (H : Hp) (vs : List V) (Q : VK) (E : XK), fd.code = cdv → A.guards = some [] → Room k (A.deeper (envOfC qual (defScope st) s.heap.objs.size f cdv)) → sp vs H Q E →
      ∃ t, PSs (cxOf CX P w K mg base N qual (defScope st) f cdv A outer s H E) (defBody st) t ∧ t { nx := fun _ H' => Q .non H', rt := Q } (L2.start N vs) H) : FnG P w K mg base CX (k + 1) f fd ps sp := by
  obtain ⟨oc, od, kV, doc, pm, an, cdv, ct, osl, rfl, lk, hcd⟩ := F.ex
  refine ⟨hlen, fun A outer s H args us vs Q E hg hr e0 bd rv h => ?_⟩
  have hl := (hlen vs H Q E h).symm
  have inK : K.In s.heap := e0.mod.kin.keeps fun b o e => (e0.bs b o e).1
  have par : ∀ y ∈ ps.zip us, (defScope st).names.lookup y.1 = some .local ∨ ((defScope st).names.lookup y.1 = some .cell ∧ ((cellsFrom (s.heap.objs.size + 1) (defScope st).names []).lookup y.1).isSome = true) := fun y hy =>
    (S.par y.1 (List.of_mem_zip (a := y.1) (b := y.2) hy).1).imp id fun q => ⟨q, PySem.W.cellsFrom_some _ _ _ (.inl q)⟩
  refine codeAny_call_function hr.depth (inK _ _ lk) rfl S.co S.gen rfl (PySem.W.codeRec_of inK hcd) (bd _ _ _ _ (wpAny_newFunctionEnv_cells S.kind par fun env he s1 x => ?_))
  subst he
  refine ⟨(e0.mod.nolimit.keeps fun b o e => (e0.bs b o e).1).keeps x.toInCall.keep, codeAny_func ?_⟩
  obtain ⟨t, ht, hq⟩ := hb cdv A outer s H vs Q E rfl hg (hr.deeper _) h
  have I : Inv (cxOf CX P w K mg base N qual (defScope st) f cdv A outer s H E) [] (L2.start N vs) H s1 := inv_start S hr.hd e0 hl rv x
  refine wpAny_mono (ht.run [] s1 _ H _ I hq) (fun fl s' q => ?_) fun _ _ q => q
  match fl, q with
  | .ret u, ⟨v, σ', H', J, r, q⟩ => exact ⟨v, H', J.os, J.bare, J.base, J.hok, r, q⟩
  | .next, ⟨σ', H', J, q⟩ => exact ⟨.non, H', J.os, J.bare, J.base, J.hok, rfl, q⟩
  | .brk, ⟨_, _, _, q⟩ => exact q.elim
  | .cont, ⟨_, _, _, q⟩ => exact q.elim
end
section
variable [Tbs] {P : Program} {w : World} {K : PySem.W.Frag} {mg : Str → Option Value} {base : Heap} {k : Nat} {XR : Hp → Hp → Value → Option Addr → Xc → Prop}
theorem okIc {x qual : Str} {st : Stmt} {f : Addr} {fd : FuncData} {N ps : List Str} {body : M Out} (io : List Bool) (F : Fun K x qual st f fd) (S : FnScope N ps (defScope st)) (hps : ps.length = io.length) (hN : io.length ≤ N.length)
    (hb : ∀ (cdv : Value) (A : Around) (outer : List Env) (s : Shared) (H : Hp) (E : XK), fd.code = cdv → A.guards = some [] → Room k (A.deeper (envOfC qual (defScope st) s.heap.objs.size f cdv)) →
      PSs (cxOf (L2.CX P w) P w K mg base N qual (defScope st) f cdv A outer s H E) (defBody st) (tS ⟨⟨K, w, mg, none, none⟩, fun cls d _ H' => E cls d H', XR⟩ (ioIx io) body)) :
    FnG P w K mg base (L2.CX P w) (k + 1) f fd ps (spI K w mg XR io.length (fnM (N.length - io.length) io body)) := by
  refine fnG_ofC F S (fun vs H Q E h => (h.1.trans hps.symm).symm) fun cdv A outer s H vs Q E hc hg hr h => ⟨_, hb cdv A outer s H E hc hg hr, ?_⟩
  obtain ⟨hn, F0, os, sr, p⟩ := h
  have est : L2.start N vs = vs.map some ++ List.replicate (N.length - io.length) none := by unfold L2.start; rw [hn]
  have s0 := sr.start (N.length - io.length)
  rw [est]
  refine ⟨F0, os.map some ++ List.replicate (N.length - io.length) none, s0.1, ?_⟩
  unfold fnM at p
  cases e : body (os.map some ++ List.replicate (N.length - io.length) none) with
  | bad => rw [e] at p; exact p
  | ex x ρ' =>
    rw [e] at p
    intro F' H' σ' cls d g s' pr xr
    obtain ⟨a1, a2, a3⟩ := sr.finish hn s' g pr
    exact p F' H' cls d a2 a1 xr
  | ok o ρ' =>
    rw [e] at p
    cases o with
    | nx =>
      intro F' H' σ' g s' pr
      obtain ⟨a1, a2, a3⟩ := sr.finish hn s' g pr
      exact p F' H' .non a2 a1 ⟨.non, fun z => by cases z⟩
    | rt r =>
      intro F' H' σ' v g s' pr ro nn
      obtain ⟨a1, a2, a3⟩ := sr.finish hn s' g pr
      exact p F' H' v a2 a1 ⟨ro, fun io a ea => ⟨fun z => (nn io a ea).1 (a3 a z), (nn io a ea).2.imp id (s0.2 a)⟩⟩
    | bk => exact p.elim
    | ct => exact p.elim
end
section
variable {K : PySem.W.Frag} {mg : Str → Option Value} {nm : Str} {C : Addr} {cv : Value} {cvs : List Value} {b : Bool}
theorem isT1 (hm : mg nm = some (.ref C)) (i : IsC K C) (k : PySem.W.kitOne K (.ref C) cv = some b) : ∀ Cl, mg nm = some (.ref Cl) → IsC K Cl ∧ PySem.W.kitOne K (.ref Cl) cv = some b := fun Cl e => by
  rw [hm] at e; cases e; exact ⟨i, k⟩
theorem isTs (hm : mg nm = some (.ref C)) (i : IsC K C) (k : PySem.W.kitAny K (.ref C) cvs = some b) : ∀ Cl, mg nm = some (.ref Cl) → IsC K Cl ∧ PySem.W.kitAny K (.ref Cl) cvs = some b := fun Cl e => by
  rw [hm] at e; cases e; exact ⟨i, k⟩
theorem fldT {f : Str} (hm : mg nm = some (.ref C)) (x : XfC K C) (no : PySem.W.findIn K (.ref C) f = some none) : ∀ Cl, mg nm = some (.ref Cl) → XfC K Cl ∧ PySem.W.findIn K (.ref Cl) f = some none := fun Cl e => by
  rw [hm] at e; cases e; exact ⟨x, no⟩
theorem hitsT (hm : mg nm = some (.ref C)) (k : PySem.W.exmAny K (.ref C) cvs = some b) : ∀ Cl, mg nm = some (.ref Cl) → PySem.W.exmAny K (.ref Cl) cvs = some b := fun Cl e => by
  rw [hm] at e; cases e; exact k
theorem hitAny {K : Kw} {nms : List Str} {hit : Str → Bool} (h : ∀ nm ∈ nms, ∀ Cl, K.mg nm = some (.ref Cl) → PySem.W.exmAny K.fr (.ref Cl) cvs = some (hit nm)) {F H : Hp} {cls : Value} {d : Option Addr} {y : Xc} (x : XRin nms K F H cls d y) : PySem.W.exmAny K.fr cls cvs = some (hit y.cls) := by
  obtain ⟨hy, C2, dd, vs, h1, rfl, _⟩ := x
  exact h _ hy _ h1
theorem vs0 : ∀ us, Vals [] us → us = [] := fun us h => by cases h; rfl
theorem vsS {c : V} {cs : List V} (h : ∀ u, RelV c u → u = cv) (t : ∀ us, Vals cs us → us = cvs) : ∀ us, Vals (c :: cs) us → us = cv :: cvs := fun us q => by
  cases q with
  | cons r1 r2 => rw [h _ r1, t _ r2]
theorem isC_of (xf : XfC K C) (h1 : (PySem.W.clsIn K C).isSome = true) (h2 : PySem.W.findIn K (.ref C) "__class__" = some (some (.builtin "object.__class__"))) (h3 : PySem.W.specialIn K (.builtin "object.__class__") "__get__" = some (some (.builtin "getset_descriptor.__get__")))
    (h4 : PySem.W.takesIn K (.builtin "object.__class__") = some true) (h5 : PySem.W.mroIn K C (.type "object") = some true) : IsC K C := ⟨h1, xf.ga, xf.gg, xf.exC, h2, h3, h4, h5⟩
end
section
variable {K : Frag}
end
section
variable {X : Cx} {A : Around} {outer : List Env} {s : Shared} {H : Hp} {E : XK} {scope : Scope} {f c' : Addr} {x : Str}
theorem lam_gl (h : scope.names.lookup x = some .globalImplicit) : Gl (LamX.lamCx X A outer s H E scope f c') x := h
theorem lam_vis (h : scope.names.lookup x = some .free) : Vis (LamX.lamCx X A outer s H E scope f c').env.scope x := .inr (.inr h)
theorem lam_tk : Takes (LamX.lamCx X A outer s H E scope f c') (fun cls d _ H' => E cls d H') := takes_of rfl rfl rfl rfl
end
def tabP (K : Frag) (c : Addr) : Addr := match K.lookup c with
  | some ⟨_, _, .fields vs, _⟩ => (match (vs[11]? : Option Value) with | some (.ref P) => P | _ => 0)
  | _ => 0
end Eg
namespace Eg
open PySem L2 PySem.W PySem.SeqAt PySem.Spec PyProof.Rows
def sLoopF (i : Nat) (body : M Out) : List Str → M Out
  | [] => M.ret .nx
  | nm :: r => fun ρ => (body.bind fun o => match o with
      | .nx => sLoopF i body r
      | .ct => sLoopF i body r
      | .bk => M.ret .nx
      | .rt r => M.ret (.rt r)) (ρ.set i (some (.fn nm)))
section
variable [Tbs] {X : Cx} {C : Ct} {P : List Nat} {tg : Expr} {es : List Expr} {body : List Stmt} {p pos : Pos} {kk : Nat}
theorem own.fn {σ : L2.St} {ρ : Rho} {i : Nat} {v : V} {nm : Str} {b : Addr} (h : own (σ.set i (some v)) (ρ.set i (some (.fn nm))) b) : own σ ρ b := by
  obtain ⟨j, o, h1, h2, h3⟩ := h
  rcases at_set h1 with ⟨_, z⟩ | ⟨n, h1⟩
  · cases z; cases h2
  · rw [List.getElem?_set_ne n] at h3
    exact ⟨j, o, h1, h2, h3⟩
theorem s_forF {i n : Nat} {nms : List Str} {vs : List V} {mb : M Out} (hp : PassesOwn (model X.prog X.w) X.A X.env X.xe) (hc : X.calm = true) (hes : PA X es (fun _ H Q => Q vs H)) (hl : vs.length = nms.length) (hv : ∀ (j : Nat) (nm : Str), nms[j]? = some nm → ∃ f, vs[j]? = some (.ref f) ∧ C.K.mg nm = some (.ref f))
    (hg : PG X tg (gName i)) (hb : PSs X body (tS C P mb)) (hi : i < n := by decide) (hPi : i ∉ P := by decide) (hsz : vs.length ≤ 1000 := by exact Nat.le_of_ble_eq_true rfl) (hN : X.N.length = n := by rfl) (hKf : C.K.fr = X.K := by rfl)
    (hs : ∀ x, foldedSetIterable (.Tuple es kk p) X.env x = pure x := by intro _; rfl) : PS X (.For tg (.Tuple es kk p) body [] pos) (tS C P (sLoopF i mb nms)) := by
  refine ⟨fun pins s σ H D I ⟨F, ρ, sr, q⟩ => (ps_for hp hc (pi_seq (pe_tup hes)) hg hb hs).run pins s σ H D I ?_⟩
  have ln : σ.length = n := by rw [I.len, hN]
  have z := sizeLine_eq
  refine ⟨by omega, fun tp htp => ⟨tp, rfl, .inr ⟨⟨vs, .inl (.inl upd_same)⟩, ?_⟩⟩⟩
  have s1 : SR C.K (upd F tp (.tup vs)) (upd H tp (.tup vs)) σ ρ := sr.laid htp
  have g1 : Grow (own σ ρ) (own σ ρ) F H (upd F tp (.tup vs)) (upd H tp (.tup vs)) := Grow.laid htp (sr.sub.free htp)
  have at1 : (upd F tp (.tup vs)) tp = some (.tup vs) := upd_same
  generalize (upd F tp (.tup vs)) = F1 at s1 g1 at1
  generalize (upd H tp (.tup vs)) = H1 at s1 g1
  refine ⟨fun i' m σ' H' => m = nms.length - i' ∧ i' ≤ nms.length ∧ ∃ F' ρ', Same F1 F' ∧ SR C.K F' H' σ' ρ' ∧ σ'.length = n ∧ PostS C P σ' ρ' F' H' D (sLoopF i mb (nms.drop i') ρ'), ⟨nms.length, by simp, Nat.zero_le _, F1, ρ, Same.refl _, s1, ln, by rw [List.drop_zero]; exact q.on g1 Pres.refl⟩, ?_⟩
  rintro i' m σ' H' ⟨rfl, hil, F', ρ', sf, s', ln', q'⟩
  have sq : SqT X.K H' tp vs := .inl (.inl (s'.sub _ _ (sf _ _ at1)))
  by_cases hlt : i' < nms.length
  · obtain ⟨f, e1, e2⟩ := hv i' nms[i'] (List.getElem?_eq_getElem hlt)
    rw [List.drop_eq_getElem_cons hlt] at q'
    simp only [sLoopF] at q'
    refine .inr ⟨⟨vs, _, sq, e1⟩, fun σ2 H2 => i' + 1 ≤ nms.length ∧ ∃ F2 ρ2, Same F1 F2 ∧ SR C.K F2 H2 σ2 ρ2 ∧ σ2.length = n ∧ PostS C P σ2 ρ2 F2 H2 D (sLoopF i mb (nms.drop (i' + 1)) ρ2), fun σ2 H2 h2 => ⟨nms.length - (i' + 1), by omega, rfl, h2⟩, fun v H2 y => ?_⟩
    obtain ⟨rfl, y2⟩ := y
    have ev : v = .ref f := Option.some.inj ((y2 vs sq).symm.trans e1)
    subst ev
    have hi' : i < σ'.length := by rw [ln']; exact hi
    have s3 : SR C.K F' H2 (σ'.set i (some (.ref f))) (ρ'.set i (some (.fn nms[i']))) := s'.store (o := .fn nms[i']) hi' ⟨f, rfl, e2⟩ fun z => by cases z
    have p3 : Pres σ' (σ'.set i (some (.ref f))) P := ⟨by rw [List.length_set], fun p hp => List.getElem?_set_ne fun z => hPi (by rw [z]; exact hp)⟩
    have g3 : Grow (own σ' ρ') (own (σ'.set i (some (.ref f))) (ρ'.set i (some (.fn nms[i'])))) F' H2 F' H2 := Grow.refl.less fun b hb => own.fn hb
    have ln3 : (σ'.set i (some (V.ref f))).length = n := by rw [p3.1]; exact ln'
    show ∃ F ρ, _
    have q3 := q'.on g3 p3
    refine ⟨F', _, s3, ?_⟩
    simp only [M.bind] at q3
    cases eb : mb (ρ'.set i (some (.fn nms[i']))) with
    | bad => simp only [eb] at q3; exact q3
    | ex x ρ4 => simp only [eb] at q3; exact q3
    | ok oo ρ4 =>
      simp only [eb] at q3
      cases oo with
      | nx => exact fun F4 H4 σ4 g4 s4 p4 => ⟨by omega, F4, ρ4, sf.trans g4.ext, s4, by rw [p4.1]; exact ln3, q3.on g4 p4⟩
      | ct => exact fun F4 H4 σ4 g4 s4 p4 => ⟨by omega, F4, ρ4, sf.trans g4.ext, s4, by rw [p4.1]; exact ln3, q3.on g4 p4⟩
      | bk => exact fun F4 H4 σ4 g4 s4 p4 => q3 F4 H4 σ4 g4 s4 p4
      | rt r => exact q3
  · have ei : i' = nms.length := by omega
    subst ei
    rw [List.drop_length] at q'
    exact .inl ⟨⟨vs, sq, by omega⟩, q' F' H' σ' Grow.refl s' Pres.refl⟩
theorem fv0 {mg : Str → Option Value} {vs : List V} : ∀ (j : Nat) (nm : Str), ([] : List Str)[j]? = some nm → ∃ f, vs[j]? = some (.ref f) ∧ mg nm = some (.ref f) := fun j nm h => by cases h
theorem fvS {mg : Str → Option Value} {vs : List V} {nm0 : Str} {nms : List Str} {f0 : Addr} (h0 : mg nm0 = some (.ref f0)) (h : ∀ (j : Nat) (nm : Str), nms[j]? = some nm → ∃ f, vs[j]? = some (.ref f) ∧ mg nm = some (.ref f)) :
    ∀ (j : Nat) (nm : Str), (nm0 :: nms)[j]? = some nm → ∃ f, (V.ref f0 :: vs)[j]? = some (.ref f) ∧ mg nm = some (.ref f) := fun j nm e => by
  cases j with
  | zero => cases e; exact ⟨f0, rfl, h0⟩
  | succ j => exact h j nm e
end
section
variable [Tbs] {X : Cx} {C : Ct} {e : Expr} {es : List Expr} {pos p : Pos} {k j : Nat} {f : Addr} {fd : FuncData} {ps : List Str} {x : Str} {n : Nat} {m : Fn}
theorem o_fnV {ms : M (List Arg)} (F : FnG X.prog X.w X.K X.mg X.base (L2.CX X.prog X.w) k f fd ps (spI X.K X.w X.mg C.XR n m)) (hG : X.A.guards = some []) (hr : Room k X.A) (hj : X.N[j]? = some x) (hvis : Vis X.env.scope x) (hk : PySem.W.keepIn X.K (.ref f) = true) (hb : Binds X.K fd ps []) (tk : Takes X C.W) (ha : PA X (e :: es) (tL C ms)) (hl : (e :: es).length = n)
    (hll : ∀ ρ as ρ', ms ρ = .ok as ρ' → as.length = n)
    (hd : (x == ("__debug__" : Str)) = false := by decide) (hcd : (x == ("__classdict__" : Str)) = false := by decide) (he : starEach (e :: es) X.env = (false, eval e X.env) :: starEach es X.env := by rfl) (hpl : (backTo pos (starEach es X.env)).any (·.1) = false := by rfl) (hK : (⟨X.K, X.w, X.mg, none, none⟩ : Kw) = C.K := by rfl) :
    PE X (.Call (.Name x p) (e :: es) [] pos) (fun σ H Q => σ[j]? = some (some (.ref f)) ∧ tO C (mCall m ms) σ H Q) := by
  have hs : ∀ (σ : L2.St) (ρ : Rho) (F0 H : Hp) (Q : VK), SR C.K F0 H σ ρ → PostE C (rO C.K) σ ρ F0 H Q (mCall m ms ρ) → PostE C (rL C.K) σ ρ F0 H (fun vs H1 => spI X.K X.w X.mg C.XR n m vs H1 Q (WE C.W σ)) (ms ρ) := fun σ ρ F0 H Q sr pp => by
    refine PostE.part (RA := rL C.K) pp fun as ρ1 F1 H1 xs e1 q1 g1 s1 r1 => ?_
    have q1 := q1.on stb_O g1
    cases e2 : argsS ρ1 as with
    | none => simp only [e2] at q1; exact q1.elim
    | some os =>
      simp only [e2] at q1
      obtain ⟨h1, h2⟩ := argsS_at s1 r1 e2
      obtain ⟨sa, no⟩ := SR.args s1 h1 h2
      refine ⟨by rw [r1.len]; exact hll _ _ _ e1, F1, os, (show (⟨X.K, X.w, X.mg, none, none⟩ : Kw) = C.K from hK) ▸ sa, ?_⟩
      rw [show (⟨X.K, X.w, X.mg, none, none⟩ : Kw) = C.K from hK]
      cases e3 : m (os.map some) with
      | bad => simp only [e3] at q1; exact q1.elim
      | ok r ρa =>
        simp only [e3] at q1
        intro F' H' v g' s' ro
        obtain ⟨s2, g2⟩ := s1.after0 no g' s'.sub s'.tb
        refine q1 F' H' v g2 s2 ⟨ro.1, fun io a ea => ?_⟩
        have hn : H1 a = none := ((ro.2 io a ea).2).resolve_right (no a)
        refine ⟨fun z => ?_, .inl hn⟩
        obtain ⟨_, u, hu⟩ := own.at s1 z
        rw [hn] at hu; cases hu
      | ex y ρa =>
        simp only [e3] at q1
        intro F' H' cls d g' s' xr
        obtain ⟨s2, g2⟩ := s1.after0 no g' s'.sub s'.tb
        exact q1 F' H' cls d g2 s2 xr
  refine ⟨fun pins s σ H Q I ⟨hf, F0, ρ, sr, pp⟩ => ?_⟩
  refine wpAny_Call_Name_kw (thn ((pe_var (pos := p) (i := j) hj hvis hd hcd).run pins s σ H (fun v H1 => v = .ref f ∧ H1 = H) I ⟨.ref f, hf, rfl, rfl⟩) fun u s1 ⟨v, H1, I1, r1, q1⟩ => ?_)
  obtain ⟨rfl, rfl⟩ := q1
  obtain rfl : u = Value.ref f := r1
  refine PySem.W.callWith_K (h₀ := X.base) I.ok.mod.kin hk (thn (ha.run pos pins s1 σ H1 _ I1 ⟨F0, ρ, sr, hs σ ρ F0 H1 Q sr pp⟩) fun us s2 ⟨vs, H2, I2, r, q⟩ => ⟨I2.kIn, ?_⟩) he hpl
  exact run_G (ds := []) (E := WE C.W σ) F hG hr hb (passAt tk σ) I2 (by rw [List.append_nil]; exact r) q
end
section
variable [Tbs] {X : Cx} {C : Ct}
theorem o_lamG {gd : L2.St → Prop} {x a : Str} {g c P : Addr} {k : Nat} {pg : Arguments} {bg : List Stmt} {sg : Scope} {dV kV doc pm cdv ct oc : Value} {an od : Option Addr} {osl : Array (Option Value)} {Ng : List Str} {is : List Nat} {m : M Out} {mb : M OD} {nl : Nat}
    {params : Arguments} {body : Expr} {scope : Scope} {p lpos pos : Pos} (hg : Gl X x) (hm : X.mg x = some (.ref g)) (hk : PySem.W.keepIn X.K (.ref g) = true)
    (lk : X.K.lookup g = some ⟨oc, od, .func (PySem.W.fnOf x x pg bg sg dV kV doc pm an cdv ct), osl⟩) (hcg : PySem.W.codeIn X.K cdv x = true) (hb : L2.Binds X.K (PySem.W.fnOf x x pg bg sg dV kV doc pm an cdv ct) [a] []) (Sg : FnScope Ng [a] sg) (hNg : Ng[0]? = some a) (hva : Vis sg a) (hnl : Ng.length = nl + 1)
    (hcal : ∀ (li : LamI) (s : Shared) (H : Hp), (∀ (W : WX) (pn : List (Addr × Obj)) (xe : Value → Shared → Prop) (p1 p2 : Pos), Takes ((gotCx X (L2.CX X.prog X.w) Ng x sg g cdv s H (fun _ _ _ => False)).tr pn xe) W →
        PE ((gotCx X (L2.CX X.prog X.w) Ng x sg g cdv s H (fun _ _ _ => False)).tr pn xe) (.Call (.Name a p1) [] [] p2) (tO ⟨⟨X.K, X.w, X.mg, none, some li⟩, W, C.XR⟩ (mAsk 0 X.N.length mb))) →
      PSs (gotCx X (L2.CX X.prog X.w) Ng x sg g cdv s H (fun _ _ _ => False)) bg (tS ⟨⟨X.K, X.w, X.mg, none, some li⟩, fun _ _ _ _ => False, C.XR⟩ [] m))
    (tabB : LamX.TabB X.base X.mg c P) (hcode : X.env.code = .ref c) (hmT : (P, X.env.qual ++ "<lambda>") ∈ Tbs.T) (hu : ∀ p ∈ Tbs.T, p.1 = P → p.2 = X.env.qual ++ "<lambda>") (hr : Room (k + 2) X.A) (L : LamX.LamS X.env.scope scope) (hdef : defaultsOf params X.env = ([], []))
    (hbind : ∀ (q : Str) (cl : List (Str × Addr)) (pm cv ctv : Value), bindArgs (PySem.W.kla_fn "<lambda>" q params body scope cl pm cv ctv) ⟨[], []⟩ = pure [])
    (hbody : ∀ (cdg : Value) (s s1 : Shared) (H1 : Hp) (E : XK) (f c' : Addr), Room k ((X.A.deeper (envOfC x sg s.heap.objs.size g cdg)).deeper (LamX.lamEnv X scope s1.heap.objs.size f c')) →
      PE (LamX.lamCx X (X.A.deeper (envOfC x sg s.heap.objs.size g cdg)) (envOfC x sg s.heap.objs.size g cdg :: X.stack) s1 H1 E scope f c') body (fun σ H Q => gd σ ∧ tO ⟨⟨X.K, X.w, X.mg, none, none⟩, fun cls d _ H' => E cls d H', C.XR⟩ mb σ H Q))
    (hK : C.K.fr = X.K := by rfl) (hdb : (x == ("__debug__" : Str)) = false := by decide) (hd : (a == ("__debug__" : Str)) = false := by decide) (hcd : (a == ("__classdict__" : Str)) = false := by decide) :
    PE X (.Call (.Name x p) [.Lambda params body scope lpos] [] pos) (fun σ H Q => gd σ ∧ tO C (mLam is m nl) σ H Q) := by
  let q := X.env.qual ++ "<lambda>"
  let KL : Addr → Addr → L2.St → Kw := fun f c' σ => ⟨X.K, X.w, X.mg, none, some ⟨f, c', q, σ⟩⟩
  let SP : L2.St → Addr → Addr → Hp → VK → Prop := fun σ f c' H1 Q => σ.length = X.N.length ∧ gd σ ∧ ∃ (F1 : Hp) (caps : List (Nat × PyData)) (d : PyData) (ρe : Rho),
    SR (KL f c' σ) F1 H1 ([V.ref f].map some) ([OD.lam caps].map some) ∧ m (some (.lam caps) :: List.replicate nl none) = .ok (.rt (.sh d)) ρe ∧
    ∀ (F' H' : Hp) (σ' : L2.St) (v : V), Grow (own ([V.ref f].map some) ([OD.lam caps].map some)) (own σ' ρe) F1 H1 F' H' → Same F' H' → TB F' H' → DV C.K F' v d → Q v H'
  refine ⟨fun pins s σ H Q I ⟨hgd, F, ρ, sr, pp⟩ => (pe_lamG (k := k) (t := fun E σ H Q => gd σ ∧ tO ⟨⟨X.K, X.w, X.mg, none, none⟩, fun cls d _ H' => E cls d H', C.XR⟩ mb σ H Q) (SP := SP) (p := p) (lpos := lpos) (pos := pos) hg hm hk lk hcg hb Sg hNg hva (fun σ => ?_) tabB hcode hr L hdef hbind hbody hdb hd hcd).run pins s σ H Q I ⟨?_, fun f c' H1 made hfn => ?_⟩⟩
  · rintro f c' s H1 Q act hco ⟨hn, hgd, F1, caps, d, ρe, srZ, em, fin⟩
    refine ⟨_, hcal ⟨f, c', q, σ⟩ s H1 fun W pn xe p1 p2 tk => o_ask (C := ⟨⟨X.K, X.w, X.mg, none, some ⟨f, c', q, σ⟩⟩, W, C.XR⟩) (K0 := ⟨X.K, X.w, X.mg, none, none⟩) rfl rfl hn ((act W pn xe p1 p2 tk).imp fun _ _ _ z => ⟨z.1, z.2.1, hgd, z.2.2⟩), ?_⟩
    have est : L2.start Ng [V.ref f] = [V.ref f].map some ++ List.replicate nl none := by
      unfold L2.start
      rw [hnl]
      rfl
    have s0 := srZ.start nl
    rw [est]
    refine ⟨F1, [OD.lam caps].map some ++ List.replicate nl none, s0.1, ?_⟩
    show PostS _ _ _ _ _ _ _ (m (some (.lam caps) :: List.replicate nl none))
    rw [em]
    intro F' H' σ' v g s' _ r _
    exact fin F' H' σ' v (g.wide fun b hb => (s0.2 b hb)) s'.sub s'.tb (DV.to hK.symm r)
  · obtain ⟨_, ps, h1, h2, h3⟩ := sr.tb.tab _ hmT
    exact ⟨ps, h1, h2, fun p' cv hc => by
      obtain ⟨c0, e1, e2⟩ := h3 p' cv hc
      exact ⟨c0, e1, sr.sub _ _ e2⟩⟩
  · obtain ⟨F1, s1, g1, fc⟩ := made.up sr hmT hu
    unfold mLam at pp
    cases ec : capsOf ρ is with
    | none => simp only [ec] at pp; exact pp.elim
    | some caps =>
      simp only [ec] at pp
      have no : ∀ b, ¬ own ([V.ref f].map some) ([OD.lam caps].map some) b := fun b ⟨i, o, e1, i1, _⟩ => by
        match i, e1 with
        | 0, e1 => cases e1; cases i1
      cases em : m (some (.lam caps) :: List.replicate nl none) with
      | bad => simp only [em] at pp; exact pp.elim
      | ex y ρ' => simp only [em] at pp; exact pp.elim
      | ok o ρe =>
        cases o with
        | rt r =>
          cases r with
          | sh d =>
            simp only [em] at pp
            refine ⟨I.len, hgd, F1, caps, d, ρe, ⟨s1.sub, rfl, fun i o e => ?_, fun i j o o' b ne e i1 => ?_, s1.tb⟩, em, fun F' H' σ' v g sub tb dv => ?_⟩
            · match i, e with
              | 0, e =>
                cases e
                refine ⟨_, rfl, ⟨f, c', q, σ⟩, rfl, rfl, fc, fun y hy => ?_⟩
                obtain ⟨u, u1, u2⟩ := sr.sl _ _ (capsOf_at ec y hy)
                exact ⟨u, u1, DV.mono g1.ext (DV.to hK u2)⟩
            · match i, e with
              | 0, e => cases e; cases i1
            · obtain ⟨s3, g3⟩ := s1.after0 no g sub tb
              exact pp F' H' v (g1.trans g3) s3 ⟨dv, fun z => by cases z⟩
          | _ => simp only [em] at pp; exact pp.elim
        | _ => simp only [em] at pp; exact pp.elim
theorem o_lamJ {j0 : Nat} {fv : Addr} {x a : Str} {g c P : Addr} {k : Nat} {pg : Arguments} {bg : List Stmt} {sg : Scope} {dV kV doc pm cdv ct oc : Value} {an od : Option Addr} {osl : Array (Option Value)} {Ng : List Str} {is : List Nat} {m : M Out} {mb : M OD} {nl : Nat}
    {params : Arguments} {body : Expr} {scope : Scope} {p lpos pos : Pos} (hg : Gl X x) (hm : X.mg x = some (.ref g)) (hk : PySem.W.keepIn X.K (.ref g) = true)
    (lk : X.K.lookup g = some ⟨oc, od, .func (PySem.W.fnOf x x pg bg sg dV kV doc pm an cdv ct), osl⟩) (hcg : PySem.W.codeIn X.K cdv x = true) (hb : L2.Binds X.K (PySem.W.fnOf x x pg bg sg dV kV doc pm an cdv ct) [a] []) (Sg : FnScope Ng [a] sg) (hNg : Ng[0]? = some a) (hva : Vis sg a) (hnl : Ng.length = nl + 1)
    (hcal : ∀ (li : LamI) (s : Shared) (H : Hp), (∀ (W : WX) (pn : List (Addr × Obj)) (xe : Value → Shared → Prop) (p1 p2 : Pos), Takes ((gotCx X (L2.CX X.prog X.w) Ng x sg g cdv s H (fun _ _ _ => False)).tr pn xe) W →
        PE ((gotCx X (L2.CX X.prog X.w) Ng x sg g cdv s H (fun _ _ _ => False)).tr pn xe) (.Call (.Name a p1) [] [] p2) (tO ⟨⟨X.K, X.w, X.mg, none, some li⟩, W, C.XR⟩ (mAsk 0 X.N.length mb))) →
      PSs (gotCx X (L2.CX X.prog X.w) Ng x sg g cdv s H (fun _ _ _ => False)) bg (tS ⟨⟨X.K, X.w, X.mg, none, some li⟩, fun _ _ _ _ => False, C.XR⟩ [] m))
    (tabB : LamX.TabB X.base X.mg c P) (hcode : X.env.code = .ref c) (hmT : (P, X.env.qual ++ "<lambda>") ∈ Tbs.T) (hu : ∀ p ∈ Tbs.T, p.1 = P → p.2 = X.env.qual ++ "<lambda>") (hr : Room (k + 2) X.A) (L : LamX.LamS X.env.scope scope) (hdef : defaultsOf params X.env = ([], []))
    (hbind : ∀ (q : Str) (cl : List (Str × Addr)) (pm cv ctv : Value), bindArgs (PySem.W.kla_fn "<lambda>" q params body scope cl pm cv ctv) ⟨[], []⟩ = pure [])
    (hbody : ∀ (cdg : Value) (s s1 : Shared) (H1 : Hp) (E : XK) (f c' : Addr), Room k ((X.A.deeper (envOfC x sg s.heap.objs.size g cdg)).deeper (LamX.lamEnv X scope s1.heap.objs.size f c')) →
      PE (LamX.lamCx X (X.A.deeper (envOfC x sg s.heap.objs.size g cdg)) (envOfC x sg s.heap.objs.size g cdg :: X.stack) s1 H1 E scope f c') body (fun σ H Q => σ[j0]? = some (some (V.ref fv)) ∧ tO ⟨⟨X.K, X.w, X.mg, none, none⟩, fun cls d _ H' => E cls d H', C.XR⟩ mb σ H Q))
    (hK : C.K.fr = X.K := by rfl) (hdb : (x == ("__debug__" : Str)) = false := by decide) (hd : (a == ("__debug__" : Str)) = false := by decide) (hcd : (a == ("__classdict__" : Str)) = false := by decide) :
    PE X (.Call (.Name x p) [.Lambda params body scope lpos] [] pos) (fun σ H Q => σ[j0]? = some (some (V.ref fv)) ∧ tO C (mLam is m nl) σ H Q) :=
  o_lamG (gd := fun σ => σ[j0]? = some (some (V.ref fv))) hg hm hk lk hcg hb Sg hNg hva hnl hcal tabB hcode hmT hu hr L hdef hbind hbody hK hdb hd hcd
end
def mLamF (j : Nat) (is : List Nat) (tbl : List (Str × M Out)) (nl : Nat) : M OD := fun ρ => match ρ[j]? with
  | some (some (.fn nm)) => (match tbl.lookup nm with
    | some m => mLam is m nl ρ
    | none => .bad)
  | _ => .bad
section
variable [Tbs] {X : Cx} {C : Ct} {e : Expr} {j nl : Nat} {is : List Nat}
theorem look_in {nm : Str} {m : M Out} : ∀ {tbl : List (Str × M Out)}, tbl.lookup nm = some m → (nm, m) ∈ tbl
  | [], h => by cases h
  | (a, b) :: tbl, h => by
    rw [List.lookup_cons] at h
    by_cases q : nm = a
    · subst q
      simp at h
      subst h
      exact List.mem_cons_self
    · have : (nm == a) = false := by simpa using q
      rw [this] at h
      exact List.mem_cons_of_mem _ (look_in h)
theorem o_lamF {tbl : List (Str × M Out)} (h : ∀ p ∈ tbl, ∃ fv, C.K.mg p.1 = some (.ref fv) ∧ PE X e (fun σ H Q => σ[j]? = some (some (.ref fv)) ∧ tO C (mLam is p.2 nl) σ H Q)) : PE X e (tO C (mLamF j is tbl nl)) := by
  refine ⟨fun pins s σ H Q I ⟨F, ρ, sr, q⟩ => ?_⟩
  unfold mLamF at q
  cases e1 : ρ[j]? with
  | none => rw [e1] at q; exact q.elim
  | some o =>
    rw [e1] at q
    cases o with
    | none => exact q.elim
    | some o =>
      cases o with
      | fn nm =>
        simp only at q
        cases e2 : tbl.lookup nm with
        | none => rw [e2] at q; exact q.elim
        | some m =>
          rw [e2] at q
          obtain ⟨v, hs, f, rfl, hm⟩ := sr.sl j _ e1
          obtain ⟨fv, h1, h2⟩ := h _ (look_in e2)
          rw [show C.K.mg nm = _ from hm] at h1
          cases h1
          exact h2.run pins s σ H Q I ⟨hs, F, ρ, sr, q⟩
      | _ => exact q.elim
theorem lf0 : ∀ p ∈ ([] : List (Str × M Out)), ∃ fv, C.K.mg p.1 = some (.ref fv) ∧ PE X e (fun σ H Q => σ[j]? = some (some (.ref fv)) ∧ tO C (mLam is p.2 nl) σ H Q) := fun p h => nomatch h
theorem lfS {nm : Str} {m : M Out} {fv : Addr} {tbl : List (Str × M Out)} (h1 : C.K.mg nm = some (.ref fv)) (h2 : PE X e (fun σ H Q => σ[j]? = some (some (.ref fv)) ∧ tO C (mLam is m nl) σ H Q)) (h : ∀ p ∈ tbl, ∃ fv, C.K.mg p.1 = some (.ref fv) ∧ PE X e (fun σ H Q => σ[j]? = some (some (.ref fv)) ∧ tO C (mLam is p.2 nl) σ H Q)) :
    ∀ p ∈ (nm, m) :: tbl, ∃ fv, C.K.mg p.1 = some (.ref fv) ∧ PE X e (fun σ H Q => σ[j]? = some (some (.ref fv)) ∧ tO C (mLam is p.2 nl) σ H Q) := fun p hp => by
  rcases List.mem_cons.mp hp with rfl | hp
  · exact ⟨fv, h1, h2⟩
  · exact h p hp
end
end Eg
namespace Lw
open PySem L2 PySem.W PySem.SeqAt Eg
def m_matter_of_2_b1 : M Out := sIf ((m2 gEq ((m2 gIx (mSlot 2) ((M.ret (.int 0)).bind fun d => M.ret (.dat d))).bind fun d => M.ret (.dat d)) (mSlot 1)).bind asBool) (sRet (mTake 2)) (sNext)
def m_matter_of_2 : M Out := sSeq (sFor ((mName 0).bind seqItems) (tName 2) (m_matter_of_2_b1)) (sRaise "NoName" ["name"] (mCons ((mName 1).bind fun d => M.ret (.dat d)) (mNil)))
def fn_matter_of_2 : Fn := fnM 1 [false, false] m_matter_of_2
def m_path_of_2_w1 : M Bool := (m1 gNotN (mSlot 1)).bind asBool
def m_path_of_2_b2 : M Out := sSeq (sExpr (mOl 2 (mAppend 2 (mName 1)))) (sSet 1 ((m2 gIx (((mCall fn_matter_of_2 (mCons ((mName 0).bind fun d => M.ret (.dat d)) (mCons ((mName 1).bind fun d => M.ret (.dat d)) (mNil)))).bind fz).bind fun d => M.ret (.dat d)) ((M.ret (.int 1)).bind fun d => M.ret (.dat d))).bind fun d => M.ret (.sh d)))
def m_path_of_2 : M Out := sSeq (sSet 2 (mFix lstG (mNil))) (sSeq (sWhile (m_path_of_2_w1) (m_path_of_2_b2) 5000) (sRet (mL gTuple (mCons (mSlot 2) (mNil)))))
def fn_path_of_2 : Fn := fnM 1 [false, false] m_path_of_2
def m_root_of_2 : M Out := sRet ((m2 gIx (((mCall fn_path_of_2 (mCons ((mName 0).bind fun d => M.ret (.dat d)) (mCons ((mName 1).bind fun d => M.ret (.dat d)) (mNil)))).bind fz).bind fun d => M.ret (.dat d)) (((M.ret (.int 1)).bind negD).bind fun d => M.ret (.dat d))).bind fun d => M.ret (.sh d))
def fn_root_of_2 : Fn := fnM 0 [false, false] m_root_of_2
def m_path_voices_2_b1 : M Out := sKPut 2 (M.ret (.bool true)) (mName 4)
def m_path_voices_2_b2 : M Out := sFor ((m2 gIx (((mCall fn_matter_of_2 (mCons ((mName 0).bind fun d => M.ret (.dat d)) (mCons ((mName 3).bind fun d => M.ret (.dat d)) (mNil)))).bind fz).bind fun d => M.ret (.dat d)) ((M.ret (.int 3)).bind fun d => M.ret (.dat d))).bind seqItems) (tName 4) (m_path_voices_2_b1)
def m_path_voices_2 : M Out := sSeq (sSet 2 (M.ret (.kd []))) (sSeq (sFor (((mCall fn_path_of_2 (mCons ((mName 0).bind fun d => M.ret (.dat d)) (mCons ((mName 1).bind fun d => M.ret (.dat d)) (mNil)))).bind fz).bind seqItems) (tName 3) (m_path_voices_2_b2)) (sRet (mL gTuple (mCons (((mKCall 2 kSorted).bind fz).bind fun d => M.ret (.dat d)) (mNil)))))
def fn_path_voices_2 : Fn := fnM 3 [false, false] m_path_voices_2
def m_feed_2 : M Out := sRet (mFix lstG (mCons (((mL gList (mCons (((mScr 0 (M.ret none) ((M.ret (.int 63)).bind fun d => (asInt d).bind fun i => M.ret (some i))).bind fz).bind fun d => M.ret (.dat d)) (mNil))).bind fz).bind fun d => M.ret (.dat d)) (mCons ((M.ret (.int 0)).bind fun d => M.ret (.dat d)) (mCons ((M.ret (.int 0)).bind fun d => M.ret (.dat d)) (mCons ((M.ret (.int 0)).bind fun d => M.ret (.dat d)) (mNil))))))
def fn_feed_2 : Fn := fnM 0 [false] m_feed_2
def m_draw_3 : M Out := sSeq (sPutL 0 ((m2 aAdd ((m2 gIx (mSlot 0) ((M.ret (.int 3)).bind fun d => M.ret (.dat d))).bind fun d => M.ret (.dat d)) ((M.ret (.int 1)).bind fun d => M.ret (.dat d))).bind fz) (M.ret (.int 3))) (sSeq (sIf ((m2 gGt ((m2 gIx (mSlot 0) ((M.ret (.int 2)).bind fun d => M.ret (.dat d))).bind fun d => M.ret (.dat d)) ((M.ret (.int 0)).bind fun d => M.ret (.dat d))).bind asBool) (sSeq (sSet 2 ((m2 gMod ((m2 gIx (mSlot 0) ((M.ret (.int 2)).bind fun d => M.ret (.dat d))).bind fun d => M.ret (.dat d)) (mSlot 1)).bind fun d => M.ret (.sh d))) (sSeq (sPutL 0 (m2 gFloorW ((m2 gIx (mSlot 0) ((M.ret (.int 2)).bind fun d => M.ret (.dat d))).bind fun d => M.ret (.dat d)) (mSlot 1)) (M.ret (.int 2))) (sRet (mTake 2)))) (sNext)) (sSeq (sSet 3 (mIf ((m2 gNe ((m2 gIx (mSlot 0) ((M.ret (.int 0)).bind fun d => M.ret (.dat d))).bind fun d => M.ret (.dat d)) (((mFix lstG (mNil)).bind fz).bind fun d => M.ret (.dat d))).bind asBool) ((m2 gIx ((m2 gIx (mSlot 0) ((M.ret (.int 0)).bind fun d => M.ret (.dat d))).bind fun d => M.ret (.dat d)) ((m2 gMod ((m2 gIx (mSlot 0) ((M.ret (.int 1)).bind fun d => M.ret (.dat d))).bind fun d => M.ret (.dat d)) (((mL gLen (mCons ((m2 gIx (mSlot 0) ((M.ret (.int 0)).bind fun d => M.ret (.dat d))).bind fun d => M.ret (.dat d)) (mNil))).bind fz).bind fun d => M.ret (.dat d))).bind fun d => M.ret (.dat d))).bind fun d => M.ret (.sh d)) ((M.ret (.int 41)).bind fun d => M.ret (.sh d)))) (sSeq (sPutL 0 ((m2 aAdd ((m2 gIx (mSlot 0) ((M.ret (.int 1)).bind fun d => M.ret (.dat d))).bind fun d => M.ret (.dat d)) ((M.ret (.int 1)).bind fun d => M.ret (.dat d))).bind fz) (M.ret (.int 1))) (sSeq (sIf (mAnd ((m2 gGe (mSlot 3) ((m2 gPow ((M.ret (.int 10)).bind fun d => M.ret (.dat d)) ((M.ret (.int 18)).bind fun d => M.ret (.dat d))).bind fun d => M.ret (.dat d))).bind asBool) ((m2 gLe ((m2 gIx (mSlot 0) ((M.ret (.int 1)).bind fun d => M.ret (.dat d))).bind fun d => M.ret (.dat d)) (((mL gLen (mCons ((m2 gIx (mSlot 0) ((M.ret (.int 0)).bind fun d => M.ret (.dat d))).bind fun d => M.ret (.dat d)) (mNil))).bind fz).bind fun d => M.ret (.dat d))).bind asBool)) (sSeq (sPutL 0 (m2 gFloorW (mSlot 3) (mSlot 1)) (M.ret (.int 2))) (sRet ((m2 gMod (mSlot 3) (mSlot 1)).bind fun d => M.ret (.sh d)))) (sNext)) (sSeq (sSet 4 ((m2 gMod ((m2 gPow (((m2 aAdd (((m2 aAdd ((m2 gMod (mSlot 3) ((M.ret (.int 1000002557)).bind fun d => M.ret (.dat d))).bind fun d => M.ret (.dat d)) (((m2 aMulT ((M.ret (.int 52711)).bind fun d => M.ret (.dat d)) ((m2 gIx (mSlot 0) ((M.ret (.int 3)).bind fun d => M.ret (.dat d))).bind fun d => M.ret (.dat d))).bind fz).bind fun d => M.ret (.dat d))).bind fz).bind fun d => M.ret (.dat d)) ((M.ret (.int 29)).bind fun d => M.ret (.dat d))).bind fz).bind fun d => M.ret (.dat d)) ((M.ret (.int 3)).bind fun d => M.ret (.dat d))).bind fun d => M.ret (.dat d)) ((M.ret (.int 2147483423)).bind fun d => M.ret (.dat d))).bind fun d => M.ret (.sh d))) (sRet ((m2 gMod ((m2 gFloorW ((m2 gMod ((m2 gPow (((m2 aAdd (((m2 aAdd (mSlot 4) (((m2 aMulT ((M.ret (.int 40503)).bind fun d => M.ret (.dat d)) ((m2 gIx (mSlot 0) ((M.ret (.int 3)).bind fun d => M.ret (.dat d))).bind fun d => M.ret (.dat d))).bind fz).bind fun d => M.ret (.dat d))).bind fz).bind fun d => M.ret (.dat d)) ((M.ret (.int 7)).bind fun d => M.ret (.dat d))).bind fz).bind fun d => M.ret (.dat d)) ((M.ret (.int 3)).bind fun d => M.ret (.dat d))).bind fun d => M.ret (.dat d)) ((M.ret (.int 2147483399)).bind fun d => M.ret (.dat d))).bind fun d => M.ret (.dat d)) ((M.ret (.int 32)).bind fun d => M.ret (.dat d))).bind fun d => M.ret (.dat d)) (mSlot 1)).bind fun d => M.ret (.sh d))))))))
def fn_draw_3 : Fn := fnM 3 [true, false] m_draw_3
def m_any : M Out := sRet ((m2 gIx (mSlot 1) (((mCallO fn_draw_3 (mCons (mSlot 0) (mCons (((mL gLen (mCons (mSlot 1) (mNil))).bind fz).bind fun d => M.ret (.dat d)) (mNil)))).bind fz).bind fun d => M.ret (.dat d))).bind fun d => M.ret (.sh d))
def fn_any : Fn := fnM 0 [true, false] m_any
def m_charter : M Out := sSeq (sSet 2 (m2 aAdd ((M.ret (.int 2)).bind fun d => M.ret (.dat d)) (((mCallO fn_draw_3 (mCons (mSlot 0) (mCons ((M.ret (.int 4)).bind fun d => M.ret (.dat d)) (mNil)))).bind fz).bind fun d => M.ret (.dat d)))) (sSeq (sSet 3 (mL gMax (mCons ((M.ret (.int 2)).bind fun d => M.ret (.dat d)) (mCons (((m2 aAdd ((m2 gFloorW (mSlot 2) ((M.ret (.int 2)).bind fun d => M.ret (.dat d))).bind fun d => M.ret (.dat d)) ((M.ret (.int 1)).bind fun d => M.ret (.dat d))).bind fz).bind fun d => M.ret (.dat d)) (mNil))))) (sSeq (sSet 4 (mSl ((mFix tupG (mCons ((M.ret (.str "ash")).bind fun d => M.ret (.dat d)) (mCons ((M.ret (.str "elm")).bind fun d => M.ret (.dat d)) (mCons ((M.ret (.str "fir")).bind fun d => M.ret (.dat d)) (mCons ((M.ret (.str "oak")).bind fun d => M.ret (.dat d)) (mNil)))))).bind fun d => M.ret (.dat d)) (M.ret none) (((m2 aAdd ((M.ret (.int 1)).bind fun d => M.ret (.dat d)) (((mCallO fn_draw_3 (mCons (mSlot 0) (mCons ((mName 1).bind fun d => M.ret (.dat d)) (mNil)))).bind fz).bind fun d => M.ret (.dat d))).bind fz).bind fun d => (asInt d).bind fun i => M.ret (some i)))) (sRet ((mFix tupG (mCons ((mName 4).bind fun d => M.ret (.dat d)) (mCons ((mName 2).bind fun d => M.ret (.dat d)) (mCons (((m2 aAdd (mSlot 3) (((mCallO fn_draw_3 (mCons (mSlot 0) (mCons (((m2 aAdd ((m2 gSub (mSlot 2) (mSlot 3)).bind fun d => M.ret (.dat d)) ((M.ret (.int 1)).bind fun d => M.ret (.dat d))).bind fz).bind fun d => M.ret (.dat d)) (mNil)))).bind fz).bind fun d => M.ret (.dat d))).bind fz).bind fun d => M.ret (.dat d)) (mCons (((mCallO fn_any (mCons (mSlot 0) (mCons (((mFix lstG (mCons ((M.ret (.int 1)).bind fun d => M.ret (.dat d)) (mCons ((M.ret (.int 2)).bind fun d => M.ret (.dat d)) (mCons ((M.ret (.int 3)).bind fun d => M.ret (.dat d)) (mCons ((M.ret (.int 7)).bind fun d => M.ret (.dat d)) (mCons ((M.ret (.int 99)).bind fun d => M.ret (.dat d)) (mNil))))))).bind fz).bind fun d => M.ret (.dat d)) (mNil)))).bind fz).bind fun d => M.ret (.dat d)) (mNil)))))).bind fun d => M.ret (.sh d)))))
def fn_charter : Fn := fnM 3 [true, false] m_charter
def m_folk_e1 : M PyData := mFix tupG (mCons ((mName 4).bind fun d => M.ret (.dat d)) (mCons ((mName 7).bind fun d => M.ret (.dat d)) (mNil)))
def m_folk_b2 : M Out := sExpr (mOl 3 (mExtend 3 ((mComp ((mFix tupG (mCons ((M.ret (.str "a")).bind fun d => M.ret (.dat d)) (mCons ((M.ret (.str "ann")).bind fun d => M.ret (.dat d)) (mCons ((M.ret (.str "b")).bind fun d => M.ret (.dat d)) (mCons ((M.ret (.str "bob")).bind fun d => M.ret (.dat d)) (mCons ((M.ret (.str "cy")).bind fun d => M.ret (.dat d)) (mCons ((M.ret (.str "zzzzzzzz")).bind fun d => M.ret (.dat d)) (mNil)))))))).bind seqItems) (tName 7) (M.ret true) (m_folk_e1) [7]).bind fz)))
def m_folk_e3 : M PyData := mOl 3 (mPopAt 3 ((mCallO fn_draw_3 (mCons (mSlot 0) (mCons (((mL gLen (mCons (mSlot 3) (mNil))).bind fz).bind fun d => M.ret (.dat d)) (mNil)))).bind fz))
def m_folk : M Out := sSeq (sSet 3 (mFix lstG (mNil))) (sSeq (sFor ((m2 gIx (mSlot 1) ((M.ret (.int 0)).bind fun d => M.ret (.dat d))).bind seqItems) (tName 4) (m_folk_b2)) (sSeq (sSet 5 (mL gMin (mCons (((mL gLen (mCons (mSlot 3) (mNil))).bind fz).bind fun d => M.ret (.dat d)) (mCons (((m2 aAdd ((M.ret (.int 2)).bind fun d => M.ret (.dat d)) (((mCallO fn_draw_3 (mCons (mSlot 0) (mCons ((m2 gSub (mSlot 2) ((M.ret (.int 1)).bind fun d => M.ret (.dat d))).bind fun d => M.ret (.dat d)) (mNil)))).bind fz).bind fun d => M.ret (.dat d))).bind fz).bind fun d => M.ret (.dat d)) (mNil))))) (sRet (mL gSorted (mCons (((mComp (mL rng1 (mCons (mSlot 5) (mNil))) (tName 6) (M.ret true) (m_folk_e3) [6]).bind fz).bind fun d => M.ret (.dat d)) (mNil))))))
def fn_folk : Fn := fnM 5 [true, false, false] m_folk
def m_cause_e1 : M PyData := mName 3
def m_cause_t2 : M Bool := (m2 gEq ((m2 gIx (mSlot 3) ((M.ret (.int 0)).bind fun d => M.ret (.dat d))).bind fun d => M.ret (.dat d)) (mSlot 1)).bind asBool
def m_cause : M Out := sSeq (sSet 2 (mComp ((mName 0).bind seqItems) (tName 3) (m_cause_t2) (m_cause_e1) [3])) (sRet (mIf ((m2 gNe (mSlot 2) (((mFix lstG (mNil)).bind fz).bind fun d => M.ret (.dat d))).bind asBool) ((m2 gIx (mSlot 2) ((M.ret (.int 0)).bind fun d => M.ret (.dat d))).bind fun d => M.ret (.sh d)) ((M.ret .none).bind fun d => M.ret (.sh d))))
def fn_cause : Fn := fnM 2 [false, false] m_cause
def m_way_w1 : M Bool := (m1 gNotN (mSlot 1)).bind asBool
def m_way_b2 : M Out := sSeq (sExpr (mOl 2 (mAppend 2 (mName 1)))) (sSet 1 ((m2 gIx (((mCall fn_cause (mCons ((mName 0).bind fun d => M.ret (.dat d)) (mCons ((mName 1).bind fun d => M.ret (.dat d)) (mNil)))).bind fz).bind fun d => M.ret (.dat d)) ((M.ret (.int 1)).bind fun d => M.ret (.dat d))).bind fun d => M.ret (.sh d)))
def m_way : M Out := sSeq (sSet 2 (mFix lstG (mNil))) (sSeq (sWhile (m_way_w1) (m_way_b2) 5000) (sRet (mTake 2)))
def fn_way : Fn := fnM 1 [false, false] m_way
def m_heads_b1 : M Out := sExpr (mOl 2 (mExtend 2 ((mL gList (mCons ((m2 gIx (((mCall fn_cause (mCons ((mName 0).bind fun d => M.ret (.dat d)) (mCons ((mName 3).bind fun d => M.ret (.dat d)) (mNil)))).bind fz).bind fun d => M.ret (.dat d)) ((M.ret (.int 3)).bind fun d => M.ret (.dat d))).bind fun d => M.ret (.dat d)) (mNil))).bind fz)))
def m_heads : M Out := sSeq (sSet 2 (mFix lstG (mNil))) (sSeq (sFor (((mCall fn_way (mCons ((mName 0).bind fun d => M.ret (.dat d)) (mCons ((mName 1).bind fun d => M.ret (.dat d)) (mNil)))).bind fz).bind seqItems) (tName 3) (m_heads_b1)) (sRet (mSSet (mCons (mSlot 2) (mNil)))))
def fn_heads : Fn := fnM 2 [false, false] m_heads
def m_few_b1 : M Out := sExpr (mOl 4 (mAppend 4 (mOl 3 (mPopAt 3 ((mCallO fn_draw_3 (mCons (mSlot 0) (mCons (((mL gLen (mCons (mSlot 3) (mNil))).bind fz).bind fun d => M.ret (.dat d)) (mNil)))).bind fz)))))
def m_few : M Out := sSeq (sPar 3 4 (mL gList (mCons (mSlot 1) (mNil))) (mFix lstG (mNil))) (sSeq (sFor (mL rng1 (mCons (((mL gMin (mCons (((mL gLen (mCons (mSlot 3) (mNil))).bind fz).bind fun d => M.ret (.dat d)) (mCons (((mCallO fn_draw_3 (mCons (mSlot 0) (mCons (((m2 aAdd (mSlot 2) ((M.ret (.int 1)).bind fun d => M.ret (.dat d))).bind fz).bind fun d => M.ret (.dat d)) (mNil)))).bind fz).bind fun d => M.ret (.dat d)) (mNil)))).bind fz).bind fun d => M.ret (.dat d)) (mNil))) (tName 5) (m_few_b1)) (sRet (mL gTuple (mCons (((mL gSorted (mCons (mSlot 4) (mNil))).bind fz).bind fun d => M.ret (.dat d)) (mNil)))))
def fn_few : Fn := fnM 3 [true, false, false] m_few
def m_said_2_y1 (nC : Nat) (mb : M OD) : M Out := sSet 1 ((mFix tupG (mCons ((M.ret (.str "told")).bind fun d => M.ret (.dat d)) (mCons (((mAsk 0 nC mb).bind fz).bind fun d => M.ret (.dat d)) (mNil)))).bind fun d => M.ret (.sh d))
def m_said_2_x2 (nC : Nat) (mb : M OD) : M Out := sSeq (sSet 2 (mFix lstG (mCons ((mIsE 5 ["NoName"] (fun nm => decide (nm ∈ ([] : List Str)))).bind fun d => M.ret (.dat d)) (mCons ((mIsE 5 ["NoName"] (fun nm => decide (nm ∈ ([] : List Str)))).bind fun d => M.ret (.dat d)) (mCons ((mIsE 5 ["NoName"] (fun nm => decide (nm ∈ ([] : List Str)))).bind fun d => M.ret (.dat d)) (mNil)))))) (sSeq (sSet 2 (m2 aAdd (mSlot 2) (((mFix lstG (mCons ((mIsE 5 ["NoName"] (fun nm => decide (nm ∈ (["NoName"] : List Str)))).bind fun d => M.ret (.dat d)) (mCons ((mIsE 5 ["NoName"] (fun nm => decide (nm ∈ ([] : List Str)))).bind fun d => M.ret (.dat d)) (mNil)))).bind fz).bind fun d => M.ret (.dat d)))) (sSeq (sSet 3 ((mIsE 5 ["NoName"] (fun nm => decide (nm ∈ ([] : List Str)))).bind fun d => M.ret (.sh d))) (sSeq (sSet 4 (mIf ((m2 gIn ((M.ret (.bool true)).bind fun d => M.ret (.dat d)) (((mSl (mSlot 2) (M.ret none) ((M.ret (.int 3)).bind fun d => (asInt d).bind fun i => M.ret (some i))).bind fz).bind fun d => M.ret (.dat d))).bind asBool) ((mIsE 5 ["NoName"] (fun nm => decide (nm ∈ ([] : List Str)))).bind fun d => M.ret (.sh d)) ((mIsE 5 ["NoName"] (fun nm => decide (nm ∈ (["NoName"] : List Str)))).bind fun d => M.ret (.sh d)))) (sIf (mAnd ((m2 gEq ((mOl 2 (mCount 2 (M.ret (.bool true)))).bind fun d => M.ret (.dat d)) ((M.ret (.int 1)).bind fun d => M.ret (.dat d))).bind asBool) (mAnd (mNot ((mName 3).bind truD)) (mAnd ((mName 4).bind truD) ((m2 gEq ((mIsE 5 ["NoName"] (fun nm => decide (nm ∈ ([] : List Str)))).bind fun d => M.ret (.dat d)) ((m2 gIn ((M.ret (.bool true)).bind fun d => M.ret (.dat d)) (((mSl (mSlot 2) (M.ret none) ((M.ret (.int 3)).bind fun d => (asInt d).bind fun i => M.ret (some i))).bind fz).bind fun d => M.ret (.dat d))).bind fun d => M.ret (.dat d))).bind asBool)))) (sIf ((m2 gIx (mSlot 2) ((M.ret (.int 0)).bind fun d => M.ret (.dat d))).bind truD) (sSet 1 ((mFix tupG (mCons ((M.ret (.str "right")).bind fun d => M.ret (.dat d)) (mCons ((mFld 5 [] "pair").bind fun d => M.ret (.dat d)) (mCons ((mFld 5 [] "why").bind fun d => M.ret (.dat d)) (mNil))))).bind fun d => M.ret (.sh d))) (sIf ((m2 gIx (mSlot 2) ((M.ret (.int 1)).bind fun d => M.ret (.dat d))).bind truD) (sSet 1 ((mFix tupG (mCons ((M.ret (.str "matter")).bind fun d => M.ret (.dat d)) (mCons ((mFld 5 [] "word").bind fun d => M.ret (.dat d)) (mNil)))).bind fun d => M.ret (.sh d))) (sIf ((m2 gIx (mSlot 2) ((M.ret (.int 2)).bind fun d => M.ret (.dat d))).bind truD) (sSet 1 ((mFix tupG (mCons ((M.ret (.str "paper")).bind fun d => M.ret (.dat d)) (mCons ((mFld 5 [] "word").bind fun d => M.ret (.dat d)) (mCons ((mFld 5 [] "at").bind fun d => M.ret (.dat d)) (mNil))))).bind fun d => M.ret (.sh d))) (sSet 1 (mIf ((m2 gIx (mSlot 2) ((M.ret (.int 3)).bind fun d => M.ret (.dat d))).bind truD) ((mFix tupG (mCons ((M.ret (.str "name")).bind fun d => M.ret (.dat d)) (mCons ((mFld 5 ["NoName"] "name").bind fun d => M.ret (.dat d)) (mNil)))).bind fun d => M.ret (.sh d)) ((mFix tupG (mCons ((M.ret (.str "hand")).bind fun d => M.ret (.dat d)) (mCons ((mFld 5 [] "hand").bind fun d => M.ret (.dat d)) (mNil)))).bind fun d => M.ret (.sh d))))))) (sNext)))))
def m_said_2 (nC : Nat) (mb : M OD) : M Out := sSeq (sSet 1 ((mFix tupG (mCons ((M.ret (.str "odd")).bind fun d => M.ret (.dat d)) (mCons ((M.ret .none).bind fun d => M.ret (.dat d)) (mNil)))).bind fun d => M.ret (.sh d))) (sSeq (sTryAs 5 (fun _ => true) ((m_said_2_y1 nC mb)) (mClr ((m_said_2_x2 nC mb)))) (sRet (mTake 1)))
def m_causes_b1 : M Out := sSeq (sSet 4 ((mFix tupG (mCons (((mCallO fn_any (mCons (mSlot 0) (mCons (((mFix lstG (mCons ((M.ret (.str "ash")).bind fun d => M.ret (.dat d)) (mCons ((M.ret (.str "elm")).bind fun d => M.ret (.dat d)) (mCons ((M.ret (.str "zz")).bind fun d => M.ret (.dat d)) (mNil))))).bind fz).bind fun d => M.ret (.dat d)) (mNil)))).bind fz).bind fun d => M.ret (.dat d)) (mCons (((mCallO fn_draw_3 (mCons (mSlot 0) (mCons ((M.ret (.int 3)).bind fun d => M.ret (.dat d)) (mNil)))).bind fz).bind fun d => M.ret (.dat d)) (mCons (((mCallO fn_draw_3 (mCons (mSlot 0) (mCons ((M.ret (.int 4)).bind fun d => M.ret (.dat d)) (mNil)))).bind fz).bind fun d => M.ret (.dat d)) (mNil))))).bind fun d => M.ret (.sh d))) (sIf ((m2 gNotIn (mSlot 4) (mSlot 2)).bind asBool) (sExpr (mOl 2 (mAppend 2 (mName 4)))) (sNext))
def m_causes_e2 : M PyData := m2 gIx (mSlot 10) ((M.ret (.int 0)).bind fun d => M.ret (.dat d))
def m_causes_t3 : M Bool := (m2 gLt (((mL gLen (mCons (((mCall fn_way (mCons ((mName 5).bind fun d => M.ret (.dat d)) (mCons ((m2 gIx (mSlot 10) ((M.ret (.int 0)).bind fun d => M.ret (.dat d))).bind fun d => M.ret (.dat d)) (mNil)))).bind fz).bind fun d => M.ret (.dat d)) (mNil))).bind fz).bind fun d => M.ret (.dat d)) ((M.ret (.int 4)).bind fun d => M.ret (.dat d))).bind asBool
def m_causes_b4 : M Out := sSeq (sSet 6 (mComp ((mName 5).bind seqItems) (tName 10) (m_causes_t3) (m_causes_e2) [10])) (sSeq (sSet 7 (mIf (mAnd ((m2 gNe (mSlot 6) (((mFix lstG (mNil)).bind fz).bind fun d => M.ret (.dat d))).bind asBool) ((m2 gGt (((mCallO fn_draw_3 (mCons (mSlot 0) (mCons ((M.ret (.int 3)).bind fun d => M.ret (.dat d)) (mNil)))).bind fz).bind fun d => M.ret (.dat d)) ((M.ret (.int 0)).bind fun d => M.ret (.dat d))).bind asBool)) (mCallO fn_any (mCons (mSlot 0) (mCons ((mName 6).bind fun d => M.ret (.dat d)) (mNil)))) ((M.ret .none).bind fun d => M.ret (.sh d)))) (sSeq (sSet 8 (mCallO fn_few (mCons (mSlot 0) (mCons ((mName 1).bind fun d => M.ret (.dat d)) (mCons ((M.ret (.int 3)).bind fun d => M.ret (.dat d)) (mNil)))))) (sSeq (sSet 9 (mCallO fn_any (mCons (mSlot 0) (mCons (((mFix lstG (mCons ((M.ret (.str "yes")).bind fun d => M.ret (.dat d)) (mCons ((M.ret (.str "no")).bind fun d => M.ret (.dat d)) (mCons ((M.ret (.str "no")).bind fun d => M.ret (.dat d)) (mCons ((M.ret (.str "laid")).bind fun d => M.ret (.dat d)) (mCons ((M.ret (.str "broken")).bind fun d => M.ret (.dat d)) (mCons ((M.ret .none).bind fun d => M.ret (.dat d)) (mNil)))))))).bind fz).bind fun d => M.ret (.dat d)) (mNil))))) (sSet 5 (m2 aAdd (mSlot 5) ((mFix tupG (mCons ((mFix tupG (mCons ((mName 4).bind fun d => M.ret (.dat d)) (mCons ((mName 7).bind fun d => M.ret (.dat d)) (mCons (((mSl (mSlot 8) (M.ret none) ((M.ret (.int 1)).bind fun d => (asInt d).bind fun i => M.ret (some i))).bind fz).bind fun d => M.ret (.dat d)) (mCons ((mName 8).bind fun d => M.ret (.dat d)) (mCons ((mFix tupG (mNil)).bind fun d => M.ret (.dat d)) (mCons ((mFix tupG (mNil)).bind fun d => M.ret (.dat d)) (mCons ((mName 9).bind fun d => M.ret (.dat d)) (mNil))))))))).bind fun d => M.ret (.dat d)) (mNil))).bind fun d => M.ret (.dat d)))))))
def m_causes : M Out := sSeq (sSet 2 (mFix lstG (mNil))) (sSeq (sFor (mL rng1 (mCons (((m2 aAdd ((M.ret (.int 1)).bind fun d => M.ret (.dat d)) (((mCallO fn_draw_3 (mCons (mSlot 0) (mCons ((M.ret (.int 9)).bind fun d => M.ret (.dat d)) (mNil)))).bind fz).bind fun d => M.ret (.dat d))).bind fz).bind fun d => M.ret (.dat d)) (mNil))) (tName 3) (m_causes_b1)) (sSeq (sSet 5 ((mFix tupG (mNil)).bind fun d => M.ret (.sh d))) (sSeq (sFor (((mL gSorted (mCons (mSlot 2) (mNil))).bind fz).bind seqItems) (tName 4) (m_causes_b4)) (sRet (mTake 5)))))
def fn_causes : Fn := fnM 9 [true, false] m_causes
def m_law_k20_b1 : M Out := sSeq (sUn (mFix tupG (mCons ((m2 gIx (mSlot 6) ((M.ret (.int 0)).bind fun d => M.ret (.dat d))).bind fun d => M.ret (.dat d)) (mCons (((mCall fn_way (mCons ((mName 4).bind fun d => M.ret (.dat d)) (mCons ((m2 gIx (mSlot 6) ((M.ret (.int 0)).bind fun d => M.ret (.dat d))).bind fun d => M.ret (.dat d)) (mNil)))).bind fz).bind fun d => M.ret (.dat d)) (mCons (((mCall fn_heads (mCons ((mName 4).bind fun d => M.ret (.dat d)) (mCons ((m2 gIx (mSlot 6) ((M.ret (.int 0)).bind fun d => M.ret (.dat d))).bind fun d => M.ret (.dat d)) (mNil)))).bind fz).bind fun d => M.ret (.dat d)) (mNil))))) (tTup [tName 7, tName 8, tName 9])) (sSeq (sSet 10 (mL gRepr (mCons (((mFix lstG (mCons (((mL gTuple (mCons (mSlot 8) (mNil))).bind fz).bind fun d => M.ret (.dat d)) (mCons ((m2 gIx (mSlot 8) (((M.ret (.int 1)).bind negD).bind fun d => M.ret (.dat d))).bind fun d => M.ret (.dat d)) (mCons (((mL gTuple (mCons (mSlot 9) (mNil))).bind fz).bind fun d => M.ret (.dat d)) (mNil))))).bind fz).bind fun d => M.ret (.dat d)) (mNil)))) (sSeq (sIf ((m2 gNe (((mL gRepr (mCons (((mFix lstG (mCons (((mCall fn_path_of_2 (mCons ((mName 4).bind fun d => M.ret (.dat d)) (mCons ((mName 7).bind fun d => M.ret (.dat d)) (mNil)))).bind fz).bind fun d => M.ret (.dat d)) (mCons (((mCall fn_root_of_2 (mCons ((mName 4).bind fun d => M.ret (.dat d)) (mCons ((mName 7).bind fun d => M.ret (.dat d)) (mNil)))).bind fz).bind fun d => M.ret (.dat d)) (mCons (((mCall fn_path_voices_2 (mCons ((mName 4).bind fun d => M.ret (.dat d)) (mCons ((mName 7).bind fun d => M.ret (.dat d)) (mNil)))).bind fz).bind fun d => M.ret (.dat d)) (mNil))))).bind fz).bind fun d => M.ret (.dat d)) (mNil))).bind fz).bind fun d => M.ret (.dat d)) (mSlot 10)).bind asBool) (sRet ((M.ret (.bool false)).bind fun d => M.ret (.sh d))) (sNext)) (sSeq (sSet 11 (mFix lstG (mCons (((mCall fn_path_of_2 (mPick [.inl 1, .inl 0] (mApp (mNil) (mCons ((mName 7).bind fun d => M.ret (.dat d)) (mCons ((mName 4).bind fun d => M.ret (.dat d)) (mNil)))))).bind fz).bind fun d => M.ret (.dat d)) (mCons (((mCall fn_root_of_2 (mPick [.inl 1, .inl 0] (mApp (mNil) (mCons ((mName 7).bind fun d => M.ret (.dat d)) (mCons ((mName 4).bind fun d => M.ret (.dat d)) (mNil)))))).bind fz).bind fun d => M.ret (.dat d)) (mNil))))) (sIf (mOr ((m2 gNe (((mL gRepr (mCons (((m2 aAdd (mSlot 11) (((mFix lstG (mCons (((mCall fn_path_voices_2 (mPick [.inl 1, .inl 0] (mApp (mNil) (mCons ((mName 7).bind fun d => M.ret (.dat d)) (mCons ((mName 4).bind fun d => M.ret (.dat d)) (mNil)))))).bind fz).bind fun d => M.ret (.dat d)) (mNil))).bind fz).bind fun d => M.ret (.dat d))).bind fz).bind fun d => M.ret (.dat d)) (mNil))).bind fz).bind fun d => M.ret (.dat d)) (mSlot 10)).bind asBool) ((m2 gNe (((mL gRepr (mCons (mSlot 4) (mNil))).bind fz).bind fun d => M.ret (.dat d)) (mSlot 5)).bind asBool)) (sRet ((M.ret (.bool false)).bind fun d => M.ret (.sh d))) (sNext)))))
def m_law_k20_l2 : M OD := mCall fn_path_voices_2 (mCons ((mName 4).bind fun d => M.ret (.dat d)) (mCons ((mName 7).bind fun d => M.ret (.dat d)) (mNil)))
def m_law_k20_l3 : M OD := mCall fn_root_of_2 (mCons ((mName 4).bind fun d => M.ret (.dat d)) (mCons ((mName 7).bind fun d => M.ret (.dat d)) (mNil)))
def m_law_k20_l4 : M OD := mCall fn_path_of_2 (mCons ((mName 4).bind fun d => M.ret (.dat d)) (mCons ((mName 7).bind fun d => M.ret (.dat d)) (mNil)))
def m_law_k20_b5 : M Out := sIf ((m2 gNe (((mL gRepr (mCons (((mLamF 12 [4, 7] [("path_of", m_said_2 13 (m_law_k20_l4)), ("root_of", m_said_2 13 (m_law_k20_l3)), ("path_voices", m_said_2 13 (m_law_k20_l2))] 5).bind fz).bind fun d => M.ret (.dat d)) (mNil))).bind fz).bind fun d => M.ret (.dat d)) (((mL gRepr (mCons ((mFix tupG (mCons ((M.ret (.str "name")).bind fun d => M.ret (.dat d)) (mCons ((mName 7).bind fun d => M.ret (.dat d)) (mNil)))).bind fun d => M.ret (.dat d)) (mNil))).bind fz).bind fun d => M.ret (.dat d))).bind asBool) (sRet ((M.ret (.bool false)).bind fun d => M.ret (.sh d))) (sNext)
def m_law_k20_b6 : M Out := sLoopF 12 (m_law_k20_b5) ["path_of", "root_of", "path_voices"]
def m_law_k20_b7 : M Out := sSeq (sSet 3 (mCallO fn_charter (mCons (mSlot 1) (mCons ((M.ret (.int 4)).bind fun d => M.ret (.dat d)) (mNil))))) (sSeq (sSet 4 (mCallO fn_causes (mCons (mSlot 1) (mCons (((mCallO fn_folk (mCons (mSlot 1) (mCons ((mName 3).bind fun d => M.ret (.dat d)) (mCons ((M.ret (.int 6)).bind fun d => M.ret (.dat d)) (mNil))))).bind fz).bind fun d => M.ret (.dat d)) (mNil))))) (sSeq (sSet 5 (mL gRepr (mCons (mSlot 4) (mNil)))) (sSeq (sFor ((mName 4).bind seqItems) (tName 6) (m_law_k20_b1)) (sFor ((mFix tupG (mCons ((mFix tupG (mCons ((M.ret (.str "ash")).bind fun d => M.ret (.dat d)) (mCons ((M.ret (.int 0)).bind fun d => M.ret (.dat d)) (mCons ((M.ret (.int 9)).bind fun d => M.ret (.dat d)) (mNil))))).bind fun d => M.ret (.dat d)) (mCons ((mFix tupG (mCons ((M.ret (.str "nowhere")).bind fun d => M.ret (.dat d)) (mCons ((M.ret (.int 0)).bind fun d => M.ret (.dat d)) (mCons ((M.ret (.int 0)).bind fun d => M.ret (.dat d)) (mNil))))).bind fun d => M.ret (.dat d)) (mCons ((mFix tupG (mCons ((M.ret (.str "elm")).bind fun d => M.ret (.dat d)) (mCons ((M.ret (.int 3)).bind fun d => M.ret (.dat d)) (mCons ((M.ret (.int 0)).bind fun d => M.ret (.dat d)) (mNil))))).bind fun d => M.ret (.dat d)) (mNil))))).bind seqItems) (tName 7) (m_law_k20_b6)))))
def m_law_k20_l8 : M OD := mCall fn_path_of_2 (mCons ((mFix tupG (mNil)).bind fun d => M.ret (.dat d)) (mCons ((mFix tupG (mCons ((M.ret (.str "ash")).bind fun d => M.ret (.dat d)) (mCons ((M.ret (.int 0)).bind fun d => M.ret (.dat d)) (mCons ((M.ret (.int 0)).bind fun d => M.ret (.dat d)) (mNil))))).bind fun d => M.ret (.dat d)) (mNil)))
def m_law_k20 : M Out := sSeq (sSet 1 (mCall fn_feed_2 (mCons (mSlot 0) (mNil)))) (sSeq (sFor (mL rng1 (mCons ((M.ret (.int 5)).bind fun d => M.ret (.dat d)) (mNil))) (tName 2) (m_law_k20_b7)) (sRet ((m2 gEq (((mLam [] (m_said_2 13 (m_law_k20_l8)) 5).bind fz).bind fun d => M.ret (.dat d)) ((mFix tupG (mCons ((M.ret (.str "name")).bind fun d => M.ret (.dat d)) (mCons ((mFix tupG (mCons ((M.ret (.str "ash")).bind fun d => M.ret (.dat d)) (mCons ((M.ret (.int 0)).bind fun d => M.ret (.dat d)) (mCons ((M.ret (.int 0)).bind fun d => M.ret (.dat d)) (mNil))))).bind fun d => M.ret (.dat d)) (mNil)))).bind fun d => M.ret (.dat d))).bind fun d => M.ret (.sh d))))
def fn_law_k20 : Fn := fnM 12 [false] m_law_k20
end Lw
namespace Dv
open PySem L2 PySem.W PySem.SeqAt Eg
variable [Tbs]
def top (i : Nat) : Stmt := PySem.Challenge.pw_strangerbench_k20_paths_told.main.body.getD i (.Pass ⟨0, 0, 0, 0⟩)
abbrev st_matter_of : Stmt := top 15
abbrev st_path_of : Stmt := top 16
abbrev st_root_of : Stmt := top 17
abbrev st_path_voices : Stmt := top 18
abbrev st_feed : Stmt := top 20
abbrev st_draw : Stmt := top 21
abbrev st_any : Stmt := top 22
abbrev st_charter : Stmt := top 23
abbrev st_folk : Stmt := top 24
abbrev st_cause : Stmt := top 25
abbrev st_way : Stmt := top 26
abbrev st_heads : Stmt := top 27
abbrev st_few : Stmt := top 28
abbrev st_said : Stmt := top 29
abbrev st_causes : Stmt := top 30
abbrev st_law : Stmt := top 31
theorem sc_matter_of : FnScope ["matters", "name", "matter"] ["matters", "name"] (defScope st_matter_of) := ⟨rfl, rfl, rfl, by decide +kernel, rfl, by decide +kernel, by decide +kernel⟩
theorem s_matter_of_matters : (defScope st_matter_of).names.lookup ("matters" : Str) = some NameKind.local := by decide +kernel
theorem s_matter_of_matter : (defScope st_matter_of).names.lookup ("matter" : Str) = some NameKind.local := by decide +kernel
theorem s_matter_of_name : (defScope st_matter_of).names.lookup ("name" : Str) = some NameKind.local := by decide +kernel
theorem s_matter_of_NoName : (defScope st_matter_of).names.lookup ("NoName" : Str) = some NameKind.globalImplicit := by decide +kernel
theorem sc_path_of : FnScope ["matters", "name", "path"] ["matters", "name"] (defScope st_path_of) := ⟨rfl, rfl, rfl, by decide +kernel, rfl, by decide +kernel, by decide +kernel⟩
theorem s_path_of_path : (defScope st_path_of).names.lookup ("path" : Str) = some NameKind.local := by decide +kernel
theorem s_path_of_name : (defScope st_path_of).names.lookup ("name" : Str) = some NameKind.local := by decide +kernel
theorem s_path_of_matters : (defScope st_path_of).names.lookup ("matters" : Str) = some NameKind.local := by decide +kernel
theorem s_path_of_matter_of : (defScope st_path_of).names.lookup ("matter_of" : Str) = some NameKind.globalImplicit := by decide +kernel
theorem s_path_of_tuple : (defScope st_path_of).names.lookup ("tuple" : Str) = some NameKind.globalImplicit := by decide +kernel
theorem sc_root_of : FnScope ["matters", "name"] ["matters", "name"] (defScope st_root_of) := ⟨rfl, rfl, rfl, by decide +kernel, rfl, by decide +kernel, by decide +kernel⟩
theorem s_root_of_name : (defScope st_root_of).names.lookup ("name" : Str) = some NameKind.local := by decide +kernel
theorem s_root_of_matters : (defScope st_root_of).names.lookup ("matters" : Str) = some NameKind.local := by decide +kernel
theorem s_root_of_path_of : (defScope st_root_of).names.lookup ("path_of" : Str) = some NameKind.globalImplicit := by decide +kernel
theorem sc_path_voices : FnScope ["matters", "name", "voices", "step", "hand"] ["matters", "name"] (defScope st_path_voices) := ⟨rfl, rfl, rfl, by decide +kernel, rfl, by decide +kernel, by decide +kernel⟩
theorem s_path_voices_voices : (defScope st_path_voices).names.lookup ("voices" : Str) = some NameKind.local := by decide +kernel
theorem s_path_voices_name : (defScope st_path_voices).names.lookup ("name" : Str) = some NameKind.local := by decide +kernel
theorem s_path_voices_matters : (defScope st_path_voices).names.lookup ("matters" : Str) = some NameKind.local := by decide +kernel
theorem s_path_voices_path_of : (defScope st_path_voices).names.lookup ("path_of" : Str) = some NameKind.globalImplicit := by decide +kernel
theorem s_path_voices_step : (defScope st_path_voices).names.lookup ("step" : Str) = some NameKind.local := by decide +kernel
theorem s_path_voices_matter_of : (defScope st_path_voices).names.lookup ("matter_of" : Str) = some NameKind.globalImplicit := by decide +kernel
theorem s_path_voices_hand : (defScope st_path_voices).names.lookup ("hand" : Str) = some NameKind.local := by decide +kernel
theorem s_path_voices_sorted : (defScope st_path_voices).names.lookup ("sorted" : Str) = some NameKind.globalImplicit := by decide +kernel
theorem s_path_voices_tuple : (defScope st_path_voices).names.lookup ("tuple" : Str) = some NameKind.globalImplicit := by decide +kernel
theorem sc_feed : FnScope ["script"] ["script"] (defScope st_feed) := ⟨rfl, rfl, rfl, by decide +kernel, rfl, by decide +kernel, by decide +kernel⟩
theorem s_feed_script : (defScope st_feed).names.lookup ("script" : Str) = some NameKind.local := by decide +kernel
theorem s_feed_list : (defScope st_feed).names.lookup ("list" : Str) = some NameKind.globalImplicit := by decide +kernel
theorem sc_draw : FnScope ["feed", "many", "figure", "cell", "mixed"] ["feed", "many"] (defScope st_draw) := ⟨rfl, rfl, rfl, by decide +kernel, rfl, by decide +kernel, by decide +kernel⟩
theorem s_draw_feed : (defScope st_draw).names.lookup ("feed" : Str) = some NameKind.local := by decide +kernel
theorem s_draw_many : (defScope st_draw).names.lookup ("many" : Str) = some NameKind.local := by decide +kernel
theorem s_draw_figure : (defScope st_draw).names.lookup ("figure" : Str) = some NameKind.local := by decide +kernel
theorem s_draw_len : (defScope st_draw).names.lookup ("len" : Str) = some NameKind.globalImplicit := by decide +kernel
theorem s_draw_cell : (defScope st_draw).names.lookup ("cell" : Str) = some NameKind.local := by decide +kernel
theorem s_draw_mixed : (defScope st_draw).names.lookup ("mixed" : Str) = some NameKind.local := by decide +kernel
theorem sc_any : FnScope ["feed", "some"] ["feed", "some"] (defScope st_any) := ⟨rfl, rfl, rfl, by decide +kernel, rfl, by decide +kernel, by decide +kernel⟩
theorem s_any_some : (defScope st_any).names.lookup ("some" : Str) = some NameKind.local := by decide +kernel
theorem s_any_len : (defScope st_any).names.lookup ("len" : Str) = some NameKind.globalImplicit := by decide +kernel
theorem s_any_feed : (defScope st_any).names.lookup ("feed" : Str) = some NameKind.local := by decide +kernel
theorem s_any__law_draw : (defScope st_any).names.lookup ("_law_draw" : Str) = some NameKind.globalImplicit := by decide +kernel
theorem sc_charter : FnScope ["feed", "most", "seats", "low", "towns"] ["feed", "most"] (defScope st_charter) := ⟨rfl, rfl, rfl, by decide +kernel, rfl, by decide +kernel, by decide +kernel⟩
theorem s_charter_feed : (defScope st_charter).names.lookup ("feed" : Str) = some NameKind.local := by decide +kernel
theorem s_charter__law_draw : (defScope st_charter).names.lookup ("_law_draw" : Str) = some NameKind.globalImplicit := by decide +kernel
theorem s_charter_seats : (defScope st_charter).names.lookup ("seats" : Str) = some NameKind.local := by decide +kernel
theorem s_charter_max : (defScope st_charter).names.lookup ("max" : Str) = some NameKind.globalImplicit := by decide +kernel
theorem s_charter_low : (defScope st_charter).names.lookup ("low" : Str) = some NameKind.local := by decide +kernel
theorem s_charter_most : (defScope st_charter).names.lookup ("most" : Str) = some NameKind.local := by decide +kernel
theorem s_charter_towns : (defScope st_charter).names.lookup ("towns" : Str) = some NameKind.local := by decide +kernel
theorem s_charter__law_any : (defScope st_charter).names.lookup ("_law_any" : Str) = some NameKind.globalImplicit := by decide +kernel
theorem sc_folk : FnScope ["feed", "charter", "most", "pool", "place", "many", "k", "word"] ["feed", "charter", "most"] (defScope st_folk) := ⟨rfl, rfl, rfl, by decide +kernel, rfl, by decide +kernel, by decide +kernel⟩
theorem s_folk_pool : (defScope st_folk).names.lookup ("pool" : Str) = some NameKind.cell := by decide +kernel
theorem s_folk_charter : (defScope st_folk).names.lookup ("charter" : Str) = some NameKind.local := by decide +kernel
theorem s_folk_place : (defScope st_folk).names.lookup ("place" : Str) = some NameKind.cell := by decide +kernel
theorem s_folk_most : (defScope st_folk).names.lookup ("most" : Str) = some NameKind.local := by decide +kernel
theorem s_folk_feed : (defScope st_folk).names.lookup ("feed" : Str) = some NameKind.cell := by decide +kernel
theorem s_folk__law_draw : (defScope st_folk).names.lookup ("_law_draw" : Str) = some NameKind.globalImplicit := by decide +kernel
theorem s_folk_len : (defScope st_folk).names.lookup ("len" : Str) = some NameKind.globalImplicit := by decide +kernel
theorem s_folk_min : (defScope st_folk).names.lookup ("min" : Str) = some NameKind.globalImplicit := by decide +kernel
theorem s_folk_many : (defScope st_folk).names.lookup ("many" : Str) = some NameKind.local := by decide +kernel
theorem s_folk_range : (defScope st_folk).names.lookup ("range" : Str) = some NameKind.globalImplicit := by decide +kernel
theorem s_folk_sorted : (defScope st_folk).names.lookup ("sorted" : Str) = some NameKind.globalImplicit := by decide +kernel
theorem sc_cause : FnScope ["causes", "tag", "found", "one"] ["causes", "tag"] (defScope st_cause) := ⟨rfl, rfl, rfl, by decide +kernel, rfl, by decide +kernel, by decide +kernel⟩
theorem s_cause_found : (defScope st_cause).names.lookup ("found" : Str) = some NameKind.local := by decide +kernel
theorem s_cause_causes : (defScope st_cause).names.lookup ("causes" : Str) = some NameKind.local := by decide +kernel
theorem sc_way : FnScope ["causes", "tag", "found"] ["causes", "tag"] (defScope st_way) := ⟨rfl, rfl, rfl, by decide +kernel, rfl, by decide +kernel, by decide +kernel⟩
theorem s_way_found : (defScope st_way).names.lookup ("found" : Str) = some NameKind.local := by decide +kernel
theorem s_way_tag : (defScope st_way).names.lookup ("tag" : Str) = some NameKind.local := by decide +kernel
theorem s_way_causes : (defScope st_way).names.lookup ("causes" : Str) = some NameKind.local := by decide +kernel
theorem s_way__law_cause : (defScope st_way).names.lookup ("_law_cause" : Str) = some NameKind.globalImplicit := by decide +kernel
theorem sc_heads : FnScope ["causes", "tag", "found", "own"] ["causes", "tag"] (defScope st_heads) := ⟨rfl, rfl, rfl, by decide +kernel, rfl, by decide +kernel, by decide +kernel⟩
theorem s_heads_found : (defScope st_heads).names.lookup ("found" : Str) = some NameKind.local := by decide +kernel
theorem s_heads_tag : (defScope st_heads).names.lookup ("tag" : Str) = some NameKind.local := by decide +kernel
theorem s_heads_causes : (defScope st_heads).names.lookup ("causes" : Str) = some NameKind.local := by decide +kernel
theorem s_heads__law_way : (defScope st_heads).names.lookup ("_law_way" : Str) = some NameKind.globalImplicit := by decide +kernel
theorem s_heads_own : (defScope st_heads).names.lookup ("own" : Str) = some NameKind.local := by decide +kernel
theorem s_heads__law_cause : (defScope st_heads).names.lookup ("_law_cause" : Str) = some NameKind.globalImplicit := by decide +kernel
theorem s_heads_list : (defScope st_heads).names.lookup ("list" : Str) = some NameKind.globalImplicit := by decide +kernel
theorem s_heads_sorted : (defScope st_heads).names.lookup ("sorted" : Str) = some NameKind.globalImplicit := by decide +kernel
theorem s_heads_set : (defScope st_heads).names.lookup ("set" : Str) = some NameKind.globalImplicit := by decide +kernel
theorem sc_few : FnScope ["feed", "folk", "most", "pool", "found", "k"] ["feed", "folk", "most"] (defScope st_few) := ⟨rfl, rfl, rfl, by decide +kernel, rfl, by decide +kernel, by decide +kernel⟩
theorem s_few_folk : (defScope st_few).names.lookup ("folk" : Str) = some NameKind.local := by decide +kernel
theorem s_few_list : (defScope st_few).names.lookup ("list" : Str) = some NameKind.globalImplicit := by decide +kernel
theorem s_few_pool : (defScope st_few).names.lookup ("pool" : Str) = some NameKind.local := by decide +kernel
theorem s_few_found : (defScope st_few).names.lookup ("found" : Str) = some NameKind.local := by decide +kernel
theorem s_few_most : (defScope st_few).names.lookup ("most" : Str) = some NameKind.local := by decide +kernel
theorem s_few_feed : (defScope st_few).names.lookup ("feed" : Str) = some NameKind.local := by decide +kernel
theorem s_few__law_draw : (defScope st_few).names.lookup ("_law_draw" : Str) = some NameKind.globalImplicit := by decide +kernel
theorem s_few_len : (defScope st_few).names.lookup ("len" : Str) = some NameKind.globalImplicit := by decide +kernel
theorem s_few_min : (defScope st_few).names.lookup ("min" : Str) = some NameKind.globalImplicit := by decide +kernel
theorem s_few_range : (defScope st_few).names.lookup ("range" : Str) = some NameKind.globalImplicit := by decide +kernel
theorem s_few_k : (defScope st_few).names.lookup ("k" : Str) = some NameKind.local := by decide +kernel
theorem s_few_sorted : (defScope st_few).names.lookup ("sorted" : Str) = some NameKind.globalImplicit := by decide +kernel
theorem s_few_tuple : (defScope st_few).names.lookup ("tuple" : Str) = some NameKind.globalImplicit := by decide +kernel
theorem sc_said : FnScope ["ask", "found", "some", "strange", "base", "e"] ["ask"] (defScope st_said) := ⟨rfl, rfl, rfl, by decide +kernel, rfl, by decide +kernel, by decide +kernel⟩
theorem s_said_found : (defScope st_said).names.lookup ("found" : Str) = some NameKind.local := by decide +kernel
theorem s_said_e : (defScope st_said).names.lookup ("e" : Str) = some NameKind.local := by decide +kernel
theorem s_said_isinstance : (defScope st_said).names.lookup ("isinstance" : Str) = some NameKind.globalImplicit := by decide +kernel
theorem s_said_NoPaper : (defScope st_said).names.lookup ("NoPaper" : Str) = some NameKind.globalImplicit := by decide +kernel
theorem s_said_NoMatter : (defScope st_said).names.lookup ("NoMatter" : Str) = some NameKind.globalImplicit := by decide +kernel
theorem s_said_NoRight : (defScope st_said).names.lookup ("NoRight" : Str) = some NameKind.globalImplicit := by decide +kernel
theorem s_said_some : (defScope st_said).names.lookup ("some" : Str) = some NameKind.local := by decide +kernel
theorem s_said_NoHand : (defScope st_said).names.lookup ("NoHand" : Str) = some NameKind.globalImplicit := by decide +kernel
theorem s_said_NoName : (defScope st_said).names.lookup ("NoName" : Str) = some NameKind.globalImplicit := by decide +kernel
theorem s_said_NoStep : (defScope st_said).names.lookup ("NoStep" : Str) = some NameKind.globalImplicit := by decide +kernel
theorem s_said_NoTown : (defScope st_said).names.lookup ("NoTown" : Str) = some NameKind.globalImplicit := by decide +kernel
theorem s_said_NoRow : (defScope st_said).names.lookup ("NoRow" : Str) = some NameKind.globalImplicit := by decide +kernel
theorem s_said_NoMore : (defScope st_said).names.lookup ("NoMore" : Str) = some NameKind.globalImplicit := by decide +kernel
theorem s_said_NoText : (defScope st_said).names.lookup ("NoText" : Str) = some NameKind.globalImplicit := by decide +kernel
theorem s_said_NoDeed : (defScope st_said).names.lookup ("NoDeed" : Str) = some NameKind.globalImplicit := by decide +kernel
theorem s_said_strange : (defScope st_said).names.lookup ("strange" : Str) = some NameKind.local := by decide +kernel
theorem s_said_ValueError : (defScope st_said).names.lookup ("ValueError" : Str) = some NameKind.globalImplicit := by decide +kernel
theorem s_said_LookupError : (defScope st_said).names.lookup ("LookupError" : Str) = some NameKind.globalImplicit := by decide +kernel
theorem s_said_base : (defScope st_said).names.lookup ("base" : Str) = some NameKind.local := by decide +kernel
theorem s_said_BenchError : (defScope st_said).names.lookup ("BenchError" : Str) = some NameKind.globalImplicit := by decide +kernel
theorem s_said_LackError : (defScope st_said).names.lookup ("LackError" : Str) = some NameKind.globalImplicit := by decide +kernel
theorem s_said_ask : (defScope st_said).names.lookup ("ask" : Str) = some NameKind.local := by decide +kernel
theorem sc_causes : FnScope ["feed", "folk", "tags", "k", "tag", "found", "short", "under", "some", "end", "one"] ["feed", "folk"] (defScope st_causes) := ⟨rfl, rfl, rfl, by decide +kernel, rfl, by decide +kernel, by decide +kernel⟩
theorem s_causes_tags : (defScope st_causes).names.lookup ("tags" : Str) = some NameKind.local := by decide +kernel
theorem s_causes_feed : (defScope st_causes).names.lookup ("feed" : Str) = some NameKind.local := by decide +kernel
theorem s_causes__law_draw : (defScope st_causes).names.lookup ("_law_draw" : Str) = some NameKind.globalImplicit := by decide +kernel
theorem s_causes_range : (defScope st_causes).names.lookup ("range" : Str) = some NameKind.globalImplicit := by decide +kernel
theorem s_causes_k : (defScope st_causes).names.lookup ("k" : Str) = some NameKind.local := by decide +kernel
theorem s_causes__law_any : (defScope st_causes).names.lookup ("_law_any" : Str) = some NameKind.globalImplicit := by decide +kernel
theorem s_causes_tag : (defScope st_causes).names.lookup ("tag" : Str) = some NameKind.local := by decide +kernel
theorem s_causes_found : (defScope st_causes).names.lookup ("found" : Str) = some NameKind.cell := by decide +kernel
theorem s_causes_sorted : (defScope st_causes).names.lookup ("sorted" : Str) = some NameKind.globalImplicit := by decide +kernel
theorem s_causes_short : (defScope st_causes).names.lookup ("short" : Str) = some NameKind.local := by decide +kernel
theorem s_causes_under : (defScope st_causes).names.lookup ("under" : Str) = some NameKind.local := by decide +kernel
theorem s_causes_folk : (defScope st_causes).names.lookup ("folk" : Str) = some NameKind.local := by decide +kernel
theorem s_causes__law_few : (defScope st_causes).names.lookup ("_law_few" : Str) = some NameKind.globalImplicit := by decide +kernel
theorem s_causes_some : (defScope st_causes).names.lookup ("some" : Str) = some NameKind.local := by decide +kernel
theorem s_causes_end : (defScope st_causes).names.lookup ("end" : Str) = some NameKind.local := by decide +kernel
theorem sc_law : FnScope ["script", "feed", "turn", "charter", "causes", "kept", "cause", "tag", "way", "heads", "due", "told", "ask"] ["script"] (defScope st_law) := ⟨rfl, rfl, rfl, by decide +kernel, rfl, by decide +kernel, by decide +kernel⟩
theorem s_law_script : (defScope st_law).names.lookup ("script" : Str) = some NameKind.local := by decide +kernel
theorem s_law__law_feed : (defScope st_law).names.lookup ("_law_feed" : Str) = some NameKind.globalImplicit := by decide +kernel
theorem s_law_feed : (defScope st_law).names.lookup ("feed" : Str) = some NameKind.local := by decide +kernel
theorem s_law_range : (defScope st_law).names.lookup ("range" : Str) = some NameKind.globalImplicit := by decide +kernel
theorem s_law_turn : (defScope st_law).names.lookup ("turn" : Str) = some NameKind.local := by decide +kernel
theorem s_law__law_charter : (defScope st_law).names.lookup ("_law_charter" : Str) = some NameKind.globalImplicit := by decide +kernel
theorem s_law_charter : (defScope st_law).names.lookup ("charter" : Str) = some NameKind.local := by decide +kernel
theorem s_law__law_folk : (defScope st_law).names.lookup ("_law_folk" : Str) = some NameKind.globalImplicit := by decide +kernel
theorem s_law__law_causes : (defScope st_law).names.lookup ("_law_causes" : Str) = some NameKind.globalImplicit := by decide +kernel
theorem s_law_causes : (defScope st_law).names.lookup ("causes" : Str) = some NameKind.cell := by decide +kernel
theorem s_law_repr : (defScope st_law).names.lookup ("repr" : Str) = some NameKind.globalImplicit := by decide +kernel
theorem s_law_kept : (defScope st_law).names.lookup ("kept" : Str) = some NameKind.local := by decide +kernel
theorem s_law_cause : (defScope st_law).names.lookup ("cause" : Str) = some NameKind.local := by decide +kernel
theorem s_law__law_heads : (defScope st_law).names.lookup ("_law_heads" : Str) = some NameKind.globalImplicit := by decide +kernel
theorem s_law__law_way : (defScope st_law).names.lookup ("_law_way" : Str) = some NameKind.globalImplicit := by decide +kernel
theorem s_law_tag : (defScope st_law).names.lookup ("tag" : Str) = some NameKind.cell := by decide +kernel
theorem s_law_way : (defScope st_law).names.lookup ("way" : Str) = some NameKind.local := by decide +kernel
theorem s_law_heads : (defScope st_law).names.lookup ("heads" : Str) = some NameKind.local := by decide +kernel
theorem s_law_tuple : (defScope st_law).names.lookup ("tuple" : Str) = some NameKind.globalImplicit := by decide +kernel
theorem s_law_due : (defScope st_law).names.lookup ("due" : Str) = some NameKind.local := by decide +kernel
theorem s_law_path_voices : (defScope st_law).names.lookup ("path_voices" : Str) = some NameKind.globalImplicit := by decide +kernel
theorem s_law_root_of : (defScope st_law).names.lookup ("root_of" : Str) = some NameKind.globalImplicit := by decide +kernel
theorem s_law_path_of : (defScope st_law).names.lookup ("path_of" : Str) = some NameKind.globalImplicit := by decide +kernel
theorem s_law_told : (defScope st_law).names.lookup ("told" : Str) = some NameKind.local := by decide +kernel
theorem s_law_ask : (defScope st_law).names.lookup ("ask" : Str) = some NameKind.cell := by decide +kernel
theorem s_law__law_said : (defScope st_law).names.lookup ("_law_said" : Str) = some NameKind.globalImplicit := by decide +kernel
abbrev st_i_NoName : Stmt := (clsBody (top 12)).getD 0 (.Pass ⟨0, 0, 0, 0⟩)
theorem sc_i_NoName : FnScope ["self", "name"] ["self", "name"] (defScope st_i_NoName) := ⟨rfl, rfl, rfl, by decide +kernel, rfl, by decide +kernel, by decide +kernel⟩
section
variable {P : Program} {w : World} {K : PySem.W.Frag} {mg : Str → Option Value} {base : Heap} {XR : Hp → Hp → Value → Option Addr → Xc → Prop}
structure Zs (K : PySem.W.Frag) (mg : Str → Option Value) (f_matter_of : Addr) (d_matter_of : FuncData) (f_path_of : Addr) (d_path_of : FuncData) (f_root_of : Addr) (d_root_of : FuncData) (f_path_voices : Addr) (d_path_voices : FuncData) (f_feed : Addr) (d_feed : FuncData) (f_draw : Addr) (d_draw : FuncData) (f_any : Addr) (d_any : FuncData) (f_charter : Addr) (d_charter : FuncData) (f_folk : Addr) (d_folk : FuncData) (f_cause : Addr) (d_cause : FuncData) (f_way : Addr) (d_way : FuncData) (f_heads : Addr) (d_heads : FuncData) (f_few : Addr) (d_few : FuncData) (f_said : Addr) (d_said : FuncData) (f_causes : Addr) (d_causes : FuncData) (C_NoName I_NoName : Addr) (J_NoName : FuncData) (A_NoPaper : Addr) (A_NoMatter : Addr) (A_NoRight : Addr) (A_NoHand : Addr) (A_NoStep : Addr) (A_NoTown : Addr) (A_NoRow : Addr) (A_NoMore : Addr) (A_NoText : Addr) (A_NoDeed : Addr) (A_BenchError : Addr) (A_LackError : Addr) : Prop where
  g_NoName : mg "NoName" = some (.ref C_NoName)
  e_NoName : ExcK K C_NoName I_NoName J_NoName ["self", "name"] ["name"]
  g_NoPaper : mg "NoPaper" = some (.ref A_NoPaper)
  g_NoMatter : mg "NoMatter" = some (.ref A_NoMatter)
  g_NoRight : mg "NoRight" = some (.ref A_NoRight)
  g_NoHand : mg "NoHand" = some (.ref A_NoHand)
  g_NoStep : mg "NoStep" = some (.ref A_NoStep)
  g_NoTown : mg "NoTown" = some (.ref A_NoTown)
  g_NoRow : mg "NoRow" = some (.ref A_NoRow)
  g_NoMore : mg "NoMore" = some (.ref A_NoMore)
  g_NoText : mg "NoText" = some (.ref A_NoText)
  g_NoDeed : mg "NoDeed" = some (.ref A_NoDeed)
  g_BenchError : mg "BenchError" = some (.ref A_BenchError)
  g_LackError : mg "LackError" = some (.ref A_LackError)
  i_NoName : IsC K C_NoName
  k_NoName_NoPaper : PySem.W.kitOne K (.ref C_NoName) (.ref A_NoPaper) = some false
  k_NoName_NoMatter : PySem.W.kitOne K (.ref C_NoName) (.ref A_NoMatter) = some false
  k_NoName_NoRight : PySem.W.kitOne K (.ref C_NoName) (.ref A_NoRight) = some false
  k_NoName_NoHand : PySem.W.kitOne K (.ref C_NoName) (.ref A_NoHand) = some false
  k_NoName_NoName : PySem.W.kitOne K (.ref C_NoName) (.ref C_NoName) = some true
  k_NoName_ValueError : PySem.W.kitOne K (.ref C_NoName) (.type "ValueError") = some false
  k_NoName_LookupError : PySem.W.kitOne K (.ref C_NoName) (.type "LookupError") = some true
  k_NoName_BenchError : PySem.W.kitOne K (.ref C_NoName) (.ref A_BenchError) = some false
  ks_NoName_NoDeed_NoText_NoMore_NoRow_NoTown_NoStep : PySem.W.kitAny K (.ref C_NoName) [(.ref A_NoDeed), (.ref A_NoText), (.ref A_NoMore), (.ref A_NoRow), (.ref A_NoTown), (.ref A_NoStep)] = some false
  hs_NoName_BenchError_LackError : PySem.W.exmAny K (.ref C_NoName) [(.ref A_BenchError), (.ref A_LackError)] = some true
  n_LookupError : mg "LookupError" = none
  n_ValueError : mg "ValueError" = none
  n_isinstance : mg "isinstance" = none
  n_len : mg "len" = none
  n_list : mg "list" = none
  n_max : mg "max" = none
  n_min : mg "min" = none
  n_range : mg "range" = none
  n_repr : mg "repr" = none
  n_set : mg "set" = none
  n_sorted : mg "sorted" = none
  n_tuple : mg "tuple" = none
  g_matter_of : mg "matter_of" = some (.ref f_matter_of)
  k_matter_of : PySem.W.keepIn K (.ref f_matter_of) = true
  b_matter_of : Binds K d_matter_of ["matters", "name"] []
  g_path_of : mg "path_of" = some (.ref f_path_of)
  k_path_of : PySem.W.keepIn K (.ref f_path_of) = true
  b_path_of : Binds K d_path_of ["matters", "name"] []
  g_root_of : mg "root_of" = some (.ref f_root_of)
  k_root_of : PySem.W.keepIn K (.ref f_root_of) = true
  b_root_of : Binds K d_root_of ["matters", "name"] []
  g_path_voices : mg "path_voices" = some (.ref f_path_voices)
  k_path_voices : PySem.W.keepIn K (.ref f_path_voices) = true
  b_path_voices : Binds K d_path_voices ["matters", "name"] []
  g_feed : mg "_law_feed" = some (.ref f_feed)
  k_feed : PySem.W.keepIn K (.ref f_feed) = true
  b_feed : Binds K d_feed ["script"] []
  g_draw : mg "_law_draw" = some (.ref f_draw)
  k_draw : PySem.W.keepIn K (.ref f_draw) = true
  b_draw : Binds K d_draw ["feed", "many"] []
  g_any : mg "_law_any" = some (.ref f_any)
  k_any : PySem.W.keepIn K (.ref f_any) = true
  b_any : Binds K d_any ["feed", "some"] []
  g_charter : mg "_law_charter" = some (.ref f_charter)
  k_charter : PySem.W.keepIn K (.ref f_charter) = true
  b_charter : Binds K d_charter ["feed", "most"] []
  g_folk : mg "_law_folk" = some (.ref f_folk)
  k_folk : PySem.W.keepIn K (.ref f_folk) = true
  b_folk : Binds K d_folk ["feed", "charter", "most"] []
  g_cause : mg "_law_cause" = some (.ref f_cause)
  k_cause : PySem.W.keepIn K (.ref f_cause) = true
  b_cause : Binds K d_cause ["causes", "tag"] []
  g_way : mg "_law_way" = some (.ref f_way)
  k_way : PySem.W.keepIn K (.ref f_way) = true
  b_way : Binds K d_way ["causes", "tag"] []
  g_heads : mg "_law_heads" = some (.ref f_heads)
  k_heads : PySem.W.keepIn K (.ref f_heads) = true
  b_heads : Binds K d_heads ["causes", "tag"] []
  g_few : mg "_law_few" = some (.ref f_few)
  k_few : PySem.W.keepIn K (.ref f_few) = true
  b_few : Binds K d_few ["feed", "folk", "most"] []
  g_said : mg "_law_said" = some (.ref f_said)
  k_said : PySem.W.keepIn K (.ref f_said) = true
  b_said : Binds K d_said ["ask"] []
  g_causes : mg "_law_causes" = some (.ref f_causes)
  k_causes : PySem.W.keepIn K (.ref f_causes) = true
  b_causes : Binds K d_causes ["feed", "folk"] []
  p_root_of_0_name_matters : BindsP K d_root_of ["matters", "name"] ["name", "matters"] 0 2 [.inl 1, .inl 0]
  q_root_of_0_name_matters : pkOk K (0 + 2) [.inl 1, .inl 0]
  p_path_of_0_name_matters : BindsP K d_path_of ["matters", "name"] ["name", "matters"] 0 2 [.inl 1, .inl 0]
  q_path_of_0_name_matters : pkOk K (0 + 2) [.inl 1, .inl 0]
  p_path_voices_0_name_matters : BindsP K d_path_voices ["matters", "name"] ["name", "matters"] 0 2 [.inl 1, .inl 0]
  q_path_voices_0_name_matters : pkOk K (0 + 2) [.inl 1, .inl 0]
variable {f_matter_of : Addr} {d_matter_of : FuncData} {f_path_of : Addr} {d_path_of : FuncData} {f_root_of : Addr} {d_root_of : FuncData} {f_path_voices : Addr} {d_path_voices : FuncData} {f_feed : Addr} {d_feed : FuncData} {f_draw : Addr} {d_draw : FuncData} {f_any : Addr} {d_any : FuncData} {f_charter : Addr} {d_charter : FuncData} {f_folk : Addr} {d_folk : FuncData} {f_cause : Addr} {d_cause : FuncData} {f_way : Addr} {d_way : FuncData} {f_heads : Addr} {d_heads : FuncData} {f_few : Addr} {d_few : FuncData} {f_said : Addr} {d_said : FuncData} {f_causes : Addr} {d_causes : FuncData} {A_NoPaper : Addr} {A_NoMatter : Addr} {A_NoRight : Addr} {A_NoHand : Addr} {A_NoStep : Addr} {A_NoTown : Addr} {A_NoRow : Addr} {A_NoMore : Addr} {A_NoText : Addr} {A_NoDeed : Addr} {A_BenchError : Addr} {A_LackError : Addr} {C_NoName I_NoName : Addr} {J_NoName : FuncData}
theorem ok_matter_of {f : Addr} {fd : FuncData} (Z : Zs K mg f_matter_of d_matter_of f_path_of d_path_of f_root_of d_root_of f_path_voices d_path_voices f_feed d_feed f_draw d_draw f_any d_any f_charter d_charter f_folk d_folk f_cause d_cause f_way d_way f_heads d_heads f_few d_few f_said d_said f_causes d_causes C_NoName I_NoName J_NoName A_NoPaper A_NoMatter A_NoRight A_NoHand A_NoStep A_NoTown A_NoRow A_NoMore A_NoText A_NoDeed A_BenchError A_LackError) (F0 : Fun K "matter_of" "matter_of" st_matter_of f fd)  (Fi_NoName : FnOk P w K mg base (L2.CX P w) 1 I_NoName J_NoName ["self", "name"] (IniSp K C_NoName ["name"])) : FnG P w K mg base (L2.CX P w) 3 f fd ["matters", "name"] (spI K w mg (XRin ["NoName"] ⟨K, w, mg, none, none⟩) 2 Lw.fn_matter_of_2) := by
  refine okI (N := ["matters", "name", "matter"]) (ps := ["matters", "name"]) (k := 2) (body := Lw.m_matter_of_2) [false, false] F0 sc_matter_of rfl (by decide) fun cdv A outer s H E hg hr => ?_
  have hu := hr.units
  have hu1 := hr.units1
  have tk : Takes (cxOf (L2.CX P w) P w K mg base ["matters", "name", "matter"] "matter_of" (defScope st_matter_of) f cdv A outer s H E) (fun cls d _ H' => E cls d H') := takes_of rfl rfl rfl rfl
  exact ss_cons (s_for (n := 3) (passes_of rfl) rfl (i_seq (d_name (pe_var (i := 0) rfl (.inl s_matter_of_matters)))) (pg_name (i := 2) sc_matter_of.nd rfl (.inl s_matter_of_matter)) (g_name) (ss_one (s_if (t_cmp (od_eq hu) (a_of_d (d_ix (a_name (pe_var (i := 2) rfl (.inl s_matter_of_matter))) (a_of_d (d_int)) (fun _ _ => rfl))) (a_name (pe_var (i := 1) rfl (.inl s_matter_of_name)))) (ss_one (s_ret (o_take (pe_var (i := 2) rfl (.inl s_matter_of_matter))))) (ss_nil)))) (ss_one (s_raiseK Z.e_NoName Fi_NoName rfl tk (raise_in (by decide)) (hr.mono (by decide)) s_matter_of_NoName Z.g_NoName (l_cons (a_of_d (d_name (pe_var (i := 1) rfl (.inl s_matter_of_name)))) (l_nil)) (llS ll0)))
theorem ok_path_of {f : Addr} {fd : FuncData} (Z : Zs K mg f_matter_of d_matter_of f_path_of d_path_of f_root_of d_root_of f_path_voices d_path_voices f_feed d_feed f_draw d_draw f_any d_any f_charter d_charter f_folk d_folk f_cause d_cause f_way d_way f_heads d_heads f_few d_few f_said d_said f_causes d_causes C_NoName I_NoName J_NoName A_NoPaper A_NoMatter A_NoRight A_NoHand A_NoStep A_NoTown A_NoRow A_NoMore A_NoText A_NoDeed A_BenchError A_LackError) (F0 : Fun K "path_of" "path_of" st_path_of f fd) (F_matter_of : FnG P w K mg base (L2.CX P w) 3 f_matter_of d_matter_of ["matters", "name"] (spI K w mg (XRin ["NoName"] ⟨K, w, mg, none, none⟩) 2 Lw.fn_matter_of_2)) : FnG P w K mg base (L2.CX P w) 4 f fd ["matters", "name"] (spI K w mg (XRin ["NoName"] ⟨K, w, mg, none, none⟩) 2 Lw.fn_path_of_2) := by
  refine okI (N := ["matters", "name", "path"]) (ps := ["matters", "name"]) (k := 3) (body := Lw.m_path_of_2) [false, false] F0 sc_path_of rfl (by decide) fun cdv A outer s H E hg hr => ?_
  have hu := hr.units
  have hu1 := hr.units1
  have tk : Takes (cxOf (L2.CX P w) P w K mg base ["matters", "name", "path"] "path_of" (defScope st_path_of) f cdv A outer s H E) (fun cls d _ H' => E cls d H') := takes_of rfl rfl rfl rfl
  exact ss_cons (s_set (i := 2) sc_path_of.nd rfl (.inl s_path_of_path) (o_lst (l_nil))) (ss_cons (s_while 5000 (passes_of rfl) (t_notN (a_name (pe_var (i := 1) rfl (.inl s_path_of_name)))) (ss_cons (s_expr (x_append (pe_var (i := 2) rfl (.inl s_path_of_path)) (d_name (pe_var (i := 1) rfl (.inl s_path_of_name))))) (ss_one (s_set (i := 1) sc_path_of.nd rfl (.inl s_path_of_name) (o_of_d (d_ix (a_of_d (d_of_o (o_fn F_matter_of hg (hr.mono (by decide)) s_path_of_matter_of Z.g_matter_of Z.k_matter_of Z.b_matter_of tk (l_cons (a_of_d (d_name (pe_var (i := 0) rfl (.inl s_path_of_matters)))) (l_cons (a_of_d (d_name (pe_var (i := 1) rfl (.inl s_path_of_name)))) (l_nil))) rfl (ll_cons (ll_cons (ll_nil)))))) (a_of_d (d_int)) (fun _ _ => rfl))))))) (ss_one (s_ret (o_callTy co_tuple s_path_of_tuple Z.n_tuple b_tuple (l_cons (a_name (pe_var (i := 2) rfl (.inl s_path_of_path))) (l_nil))))))
theorem ok_root_of {f : Addr} {fd : FuncData} (Z : Zs K mg f_matter_of d_matter_of f_path_of d_path_of f_root_of d_root_of f_path_voices d_path_voices f_feed d_feed f_draw d_draw f_any d_any f_charter d_charter f_folk d_folk f_cause d_cause f_way d_way f_heads d_heads f_few d_few f_said d_said f_causes d_causes C_NoName I_NoName J_NoName A_NoPaper A_NoMatter A_NoRight A_NoHand A_NoStep A_NoTown A_NoRow A_NoMore A_NoText A_NoDeed A_BenchError A_LackError) (F0 : Fun K "root_of" "root_of" st_root_of f fd) (F_path_of : FnG P w K mg base (L2.CX P w) 4 f_path_of d_path_of ["matters", "name"] (spI K w mg (XRin ["NoName"] ⟨K, w, mg, none, none⟩) 2 Lw.fn_path_of_2)) : FnG P w K mg base (L2.CX P w) 5 f fd ["matters", "name"] (spI K w mg (XRin ["NoName"] ⟨K, w, mg, none, none⟩) 2 Lw.fn_root_of_2) := by
  refine okI (N := ["matters", "name"]) (ps := ["matters", "name"]) (k := 4) (body := Lw.m_root_of_2) [false, false] F0 sc_root_of rfl (by decide) fun cdv A outer s H E hg hr => ?_
  have hu := hr.units
  have hu1 := hr.units1
  have tk : Takes (cxOf (L2.CX P w) P w K mg base ["matters", "name"] "root_of" (defScope st_root_of) f cdv A outer s H E) (fun cls d _ H' => E cls d H') := takes_of rfl rfl rfl rfl
  exact ss_one (s_ret (o_of_d (d_ix (a_of_d (d_of_o (o_fn F_path_of hg (hr.mono (by decide)) s_root_of_path_of Z.g_path_of Z.k_path_of Z.b_path_of tk (l_cons (a_of_d (d_name (pe_var (i := 0) rfl (.inl s_root_of_matters)))) (l_cons (a_of_d (d_name (pe_var (i := 1) rfl (.inl s_root_of_name)))) (l_nil))) rfl (ll_cons (ll_cons (ll_nil)))))) (a_of_d (d_neg (d_int))) (fun _ _ => rfl))))
theorem ok_path_voices {f : Addr} {fd : FuncData} (Z : Zs K mg f_matter_of d_matter_of f_path_of d_path_of f_root_of d_root_of f_path_voices d_path_voices f_feed d_feed f_draw d_draw f_any d_any f_charter d_charter f_folk d_folk f_cause d_cause f_way d_way f_heads d_heads f_few d_few f_said d_said f_causes d_causes C_NoName I_NoName J_NoName A_NoPaper A_NoMatter A_NoRight A_NoHand A_NoStep A_NoTown A_NoRow A_NoMore A_NoText A_NoDeed A_BenchError A_LackError) (F0 : Fun K "path_voices" "path_voices" st_path_voices f fd) (F_path_of : FnG P w K mg base (L2.CX P w) 4 f_path_of d_path_of ["matters", "name"] (spI K w mg (XRin ["NoName"] ⟨K, w, mg, none, none⟩) 2 Lw.fn_path_of_2)) (F_matter_of : FnG P w K mg base (L2.CX P w) 3 f_matter_of d_matter_of ["matters", "name"] (spI K w mg (XRin ["NoName"] ⟨K, w, mg, none, none⟩) 2 Lw.fn_matter_of_2)) : FnG P w K mg base (L2.CX P w) 5 f fd ["matters", "name"] (spI K w mg (XRin ["NoName"] ⟨K, w, mg, none, none⟩) 2 Lw.fn_path_voices_2) := by
  refine okI (N := ["matters", "name", "voices", "step", "hand"]) (ps := ["matters", "name"]) (k := 4) (body := Lw.m_path_voices_2) [false, false] F0 sc_path_voices rfl (by decide) fun cdv A outer s H E hg hr => ?_
  have hu := hr.units
  have hu1 := hr.units1
  have tk : Takes (cxOf (L2.CX P w) P w K mg base ["matters", "name", "voices", "step", "hand"] "path_voices" (defScope st_path_voices) f cdv A outer s H E) (fun cls d _ H' => E cls d H') := takes_of rfl rfl rfl rfl
  exact ss_cons (s_set (i := 2) sc_path_voices.nd rfl (.inl s_path_voices_voices) (o_knew)) (ss_cons (s_for (n := 5) (passes_of rfl) rfl (i_seq (d_of_o (o_fn F_path_of hg (hr.mono (by decide)) s_path_voices_path_of Z.g_path_of Z.k_path_of Z.b_path_of tk (l_cons (a_of_d (d_name (pe_var (i := 0) rfl (.inl s_path_voices_matters)))) (l_cons (a_of_d (d_name (pe_var (i := 1) rfl (.inl s_path_voices_name)))) (l_nil))) rfl (ll_cons (ll_cons (ll_nil)))))) (pg_name (i := 3) sc_path_voices.nd rfl (.inl s_path_voices_step)) (g_name) (ss_one (s_for (n := 5) (passes_of rfl) rfl (i_seq (d_ix (a_of_d (d_of_o (o_fn F_matter_of hg (hr.mono (by decide)) s_path_voices_matter_of Z.g_matter_of Z.k_matter_of Z.b_matter_of tk (l_cons (a_of_d (d_name (pe_var (i := 0) rfl (.inl s_path_voices_matters)))) (l_cons (a_of_d (d_name (pe_var (i := 3) rfl (.inl s_path_voices_step)))) (l_nil))) rfl (ll_cons (ll_cons (ll_nil)))))) (a_of_d (d_int)) (fun _ _ => rfl))) (pg_name (i := 4) sc_path_voices.nd rfl (.inl s_path_voices_hand)) (g_name) (ss_one (s_kput (u9 hu) (pe_var (i := 2) rfl (.inl s_path_voices_voices)) (d_name (pe_var (i := 4) rfl (.inl s_path_voices_hand))) (d_bool)))))) (ss_one (s_ret (o_callTy co_tuple s_path_voices_tuple Z.n_tuple b_tuple (l_cons (a_of_d (d_of_o (o_kcall (ck_sorted rfl hu) s_path_voices_sorted Z.n_sorted b_sorted (pe_var (i := 2) rfl (.inl s_path_voices_voices))))) (l_nil))))))
theorem ok_feed {f : Addr} {fd : FuncData} (Z : Zs K mg f_matter_of d_matter_of f_path_of d_path_of f_root_of d_root_of f_path_voices d_path_voices f_feed d_feed f_draw d_draw f_any d_any f_charter d_charter f_folk d_folk f_cause d_cause f_way d_way f_heads d_heads f_few d_few f_said d_said f_causes d_causes C_NoName I_NoName J_NoName A_NoPaper A_NoMatter A_NoRight A_NoHand A_NoStep A_NoTown A_NoRow A_NoMore A_NoText A_NoDeed A_BenchError A_LackError) (F0 : Fun K "_law_feed" "_law_feed" st_feed f fd)  : FnG P w K mg base (L2.CX P w) 1 f fd ["script"] (spI K w mg (XRin ["NoName"] ⟨K, w, mg, none, none⟩) 1 Lw.fn_feed_2) := by
  refine okI (N := ["script"]) (ps := ["script"]) (k := 0) (body := Lw.m_feed_2) [false] F0 sc_feed rfl (by decide) fun cdv A outer s H E hg hr => ?_
  have hu := hr.units
  have hu1 := hr.units1
  have tk : Takes (cxOf (L2.CX P w) P w K mg base ["script"] "_law_feed" (defScope st_feed) f cdv A outer s H E) (fun cls d _ H' => E cls d H') := takes_of rfl rfl rfl rfl
  exact ss_one (s_ret (o_lst (l_cons (a_of_d (d_of_o (o_callTy co_list s_feed_list Z.n_list b_list (l_cons (a_of_d (d_of_o (o_scr (pe_var (i := 0) rfl (.inl s_feed_script)) (pt_none) (pt_some (d_int))))) (l_nil))))) (l_cons (a_of_d (d_int)) (l_cons (a_of_d (d_int)) (l_cons (a_of_d (d_int)) (l_nil)))))))
theorem ok_draw {f : Addr} {fd : FuncData} (Z : Zs K mg f_matter_of d_matter_of f_path_of d_path_of f_root_of d_root_of f_path_voices d_path_voices f_feed d_feed f_draw d_draw f_any d_any f_charter d_charter f_folk d_folk f_cause d_cause f_way d_way f_heads d_heads f_few d_few f_said d_said f_causes d_causes C_NoName I_NoName J_NoName A_NoPaper A_NoMatter A_NoRight A_NoHand A_NoStep A_NoTown A_NoRow A_NoMore A_NoText A_NoDeed A_BenchError A_LackError) (F0 : Fun K "_law_draw" "_law_draw" st_draw f fd)  : FnG P w K mg base (L2.CX P w) 1 f fd ["feed", "many"] (spI K w mg (XRin ["NoName"] ⟨K, w, mg, none, none⟩) 2 Lw.fn_draw_3) := by
  refine okI (N := ["feed", "many", "figure", "cell", "mixed"]) (ps := ["feed", "many"]) (k := 0) (body := Lw.m_draw_3) [true, false] F0 sc_draw rfl (by decide) fun cdv A outer s H E hg hr => ?_
  have hu := hr.units
  have hu1 := hr.units1
  have tk : Takes (cxOf (L2.CX P w) P w K mg base ["feed", "many", "figure", "cell", "mixed"] "_law_draw" (defScope st_draw) f cdv A outer s H E) (fun cls d _ H' => E cls d H') := takes_of rfl rfl rfl rfl
  exact ss_cons (s_putL (pe_var (i := 0) rfl (.inl s_draw_feed)) (d_int) (d_of_o (o_op ao_add (a_of_d (d_ix (a_name (pe_var (i := 0) rfl (.inl s_draw_feed))) (a_of_d (d_int)) (fun _ _ => rfl))) (a_of_d (d_int))))) (ss_cons (s_if (t_cmp (od_gt hu) (a_of_d (d_ix (a_name (pe_var (i := 0) rfl (.inl s_draw_feed))) (a_of_d (d_int)) (fun _ _ => rfl))) (a_of_d (d_int))) (ss_cons (s_set (i := 2) sc_draw.nd rfl (.inl s_draw_figure) (o_of_d (d_op od_mod (a_of_d (d_ix (a_name (pe_var (i := 0) rfl (.inl s_draw_feed))) (a_of_d (d_int)) (fun _ _ => rfl))) (a_name (pe_var (i := 1) rfl (.inl s_draw_many)))))) (ss_cons (s_putL (pe_var (i := 0) rfl (.inl s_draw_feed)) (d_int) (d_op od_floorW (a_of_d (d_ix (a_name (pe_var (i := 0) rfl (.inl s_draw_feed))) (a_of_d (d_int)) (fun _ _ => rfl))) (a_name (pe_var (i := 1) rfl (.inl s_draw_many))))) (ss_one (s_ret (o_take (pe_var (i := 2) rfl (.inl s_draw_figure))))))) (ss_nil)) (ss_cons (s_set (i := 3) sc_draw.nd rfl (.inl s_draw_cell) (o_if (t_cmp (od_ne hu) (a_of_d (d_ix (a_name (pe_var (i := 0) rfl (.inl s_draw_feed))) (a_of_d (d_int)) (fun _ _ => rfl))) (a_of_d (d_of_o (o_lst (l_nil))))) (o_of_d (d_ix (a_of_d (d_ix (a_name (pe_var (i := 0) rfl (.inl s_draw_feed))) (a_of_d (d_int)) (fun _ _ => rfl))) (a_of_d (d_op od_mod (a_of_d (d_ix (a_name (pe_var (i := 0) rfl (.inl s_draw_feed))) (a_of_d (d_int)) (fun _ _ => rfl))) (a_of_d (d_of_o (o_call co_len s_draw_len Z.n_len b_len (l_cons (a_of_d (d_ix (a_name (pe_var (i := 0) rfl (.inl s_draw_feed))) (a_of_d (d_int)) (fun _ _ => rfl))) (l_nil))))))) (fun _ _ => rfl))) (o_of_d (d_int)))) (ss_cons (s_putL (pe_var (i := 0) rfl (.inl s_draw_feed)) (d_int) (d_of_o (o_op ao_add (a_of_d (d_ix (a_name (pe_var (i := 0) rfl (.inl s_draw_feed))) (a_of_d (d_int)) (fun _ _ => rfl))) (a_of_d (d_int))))) (ss_cons (s_if (t_w (w_and (t_cmp (od_ge hu) (a_name (pe_var (i := 3) rfl (.inl s_draw_cell))) (a_of_d (d_op od_pow (a_of_d (d_int)) (a_of_d (d_int))))) (w_one1 (t_cmp (od_le hu) (a_of_d (d_ix (a_name (pe_var (i := 0) rfl (.inl s_draw_feed))) (a_of_d (d_int)) (fun _ _ => rfl))) (a_of_d (d_of_o (o_call co_len s_draw_len Z.n_len b_len (l_cons (a_of_d (d_ix (a_name (pe_var (i := 0) rfl (.inl s_draw_feed))) (a_of_d (d_int)) (fun _ _ => rfl))) (l_nil))))))))) (ss_cons (s_putL (pe_var (i := 0) rfl (.inl s_draw_feed)) (d_int) (d_op od_floorW (a_name (pe_var (i := 3) rfl (.inl s_draw_cell))) (a_name (pe_var (i := 1) rfl (.inl s_draw_many))))) (ss_one (s_ret (o_of_d (d_op od_mod (a_name (pe_var (i := 3) rfl (.inl s_draw_cell))) (a_name (pe_var (i := 1) rfl (.inl s_draw_many)))))))) (ss_nil)) (ss_cons (s_set (i := 4) sc_draw.nd rfl (.inl s_draw_mixed) (o_of_d (d_op od_mod (a_of_d (d_op od_pow (a_of_d (d_of_o (o_op ao_add (a_of_d (d_of_o (o_op ao_add (a_of_d (d_op od_mod (a_name (pe_var (i := 3) rfl (.inl s_draw_cell))) (a_of_d (d_int)))) (a_of_d (d_of_o (o_op ao_mulT (a_of_d (d_int)) (a_of_d (d_ix (a_name (pe_var (i := 0) rfl (.inl s_draw_feed))) (a_of_d (d_int)) (fun _ _ => rfl))))))))) (a_of_d (d_int))))) (a_of_d (d_int)))) (a_of_d (d_int))))) (ss_one (s_ret (o_of_d (d_op od_mod (a_of_d (d_op od_floorW (a_of_d (d_op od_mod (a_of_d (d_op od_pow (a_of_d (d_of_o (o_op ao_add (a_of_d (d_of_o (o_op ao_add (a_name (pe_var (i := 4) rfl (.inl s_draw_mixed))) (a_of_d (d_of_o (o_op ao_mulT (a_of_d (d_int)) (a_of_d (d_ix (a_name (pe_var (i := 0) rfl (.inl s_draw_feed))) (a_of_d (d_int)) (fun _ _ => rfl))))))))) (a_of_d (d_int))))) (a_of_d (d_int)))) (a_of_d (d_int)))) (a_of_d (d_int)))) (a_name (pe_var (i := 1) rfl (.inl s_draw_many))))))))))))
theorem ok_any {f : Addr} {fd : FuncData} (Z : Zs K mg f_matter_of d_matter_of f_path_of d_path_of f_root_of d_root_of f_path_voices d_path_voices f_feed d_feed f_draw d_draw f_any d_any f_charter d_charter f_folk d_folk f_cause d_cause f_way d_way f_heads d_heads f_few d_few f_said d_said f_causes d_causes C_NoName I_NoName J_NoName A_NoPaper A_NoMatter A_NoRight A_NoHand A_NoStep A_NoTown A_NoRow A_NoMore A_NoText A_NoDeed A_BenchError A_LackError) (F0 : Fun K "_law_any" "_law_any" st_any f fd) (F_draw : FnG P w K mg base (L2.CX P w) 1 f_draw d_draw ["feed", "many"] (spI K w mg (XRin ["NoName"] ⟨K, w, mg, none, none⟩) 2 Lw.fn_draw_3)) : FnG P w K mg base (L2.CX P w) 2 f fd ["feed", "some"] (spI K w mg (XRin ["NoName"] ⟨K, w, mg, none, none⟩) 2 Lw.fn_any) := by
  refine okI (N := ["feed", "some"]) (ps := ["feed", "some"]) (k := 1) (body := Lw.m_any) [true, false] F0 sc_any rfl (by decide) fun cdv A outer s H E hg hr => ?_
  have hu := hr.units
  have hu1 := hr.units1
  have tk : Takes (cxOf (L2.CX P w) P w K mg base ["feed", "some"] "_law_any" (defScope st_any) f cdv A outer s H E) (fun cls d _ H' => E cls d H') := takes_of rfl rfl rfl rfl
  exact ss_one (s_ret (o_of_d (d_ix (a_name (pe_var (i := 1) rfl (.inl s_any_some))) (a_of_d (d_of_o (o_fnO F_draw hg (hr.mono (by decide)) s_any__law_draw Z.g_draw Z.k_draw Z.b_draw tk (l_cons (a_name (pe_var (i := 0) rfl (.inl s_any_feed))) (l_cons (a_of_d (d_of_o (o_call co_len s_any_len Z.n_len b_len (l_cons (a_name (pe_var (i := 1) rfl (.inl s_any_some))) (l_nil))))) (l_nil))) rfl (ll_cons (ll_cons (ll_nil)))))) (fun _ _ => rfl))))
theorem ok_charter {f : Addr} {fd : FuncData} (Z : Zs K mg f_matter_of d_matter_of f_path_of d_path_of f_root_of d_root_of f_path_voices d_path_voices f_feed d_feed f_draw d_draw f_any d_any f_charter d_charter f_folk d_folk f_cause d_cause f_way d_way f_heads d_heads f_few d_few f_said d_said f_causes d_causes C_NoName I_NoName J_NoName A_NoPaper A_NoMatter A_NoRight A_NoHand A_NoStep A_NoTown A_NoRow A_NoMore A_NoText A_NoDeed A_BenchError A_LackError) (F0 : Fun K "_law_charter" "_law_charter" st_charter f fd) (F_draw : FnG P w K mg base (L2.CX P w) 1 f_draw d_draw ["feed", "many"] (spI K w mg (XRin ["NoName"] ⟨K, w, mg, none, none⟩) 2 Lw.fn_draw_3)) (F_any : FnG P w K mg base (L2.CX P w) 2 f_any d_any ["feed", "some"] (spI K w mg (XRin ["NoName"] ⟨K, w, mg, none, none⟩) 2 Lw.fn_any)) : FnG P w K mg base (L2.CX P w) 3 f fd ["feed", "most"] (spI K w mg (XRin ["NoName"] ⟨K, w, mg, none, none⟩) 2 Lw.fn_charter) := by
  refine okI (N := ["feed", "most", "seats", "low", "towns"]) (ps := ["feed", "most"]) (k := 2) (body := Lw.m_charter) [true, false] F0 sc_charter rfl (by decide) fun cdv A outer s H E hg hr => ?_
  have hu := hr.units
  have hu1 := hr.units1
  have tk : Takes (cxOf (L2.CX P w) P w K mg base ["feed", "most", "seats", "low", "towns"] "_law_charter" (defScope st_charter) f cdv A outer s H E) (fun cls d _ H' => E cls d H') := takes_of rfl rfl rfl rfl
  exact ss_cons (s_set (i := 2) sc_charter.nd rfl (.inl s_charter_seats) (o_op ao_add (a_of_d (d_int)) (a_of_d (d_of_o (o_fnO F_draw hg (hr.mono (by decide)) s_charter__law_draw Z.g_draw Z.k_draw Z.b_draw tk (l_cons (a_name (pe_var (i := 0) rfl (.inl s_charter_feed))) (l_cons (a_of_d (d_int)) (l_nil))) rfl (ll_cons (ll_cons (ll_nil)))))))) (ss_cons (s_set (i := 3) sc_charter.nd rfl (.inl s_charter_low) (o_call (co_max rfl hu) s_charter_max Z.n_max b_max (l_cons (a_of_d (d_int)) (l_cons (a_of_d (d_of_o (o_op ao_add (a_of_d (d_op od_floorW (a_name (pe_var (i := 2) rfl (.inl s_charter_seats))) (a_of_d (d_int)))) (a_of_d (d_int))))) (l_nil))))) (ss_cons (s_set (i := 4) sc_charter.nd rfl (.inl s_charter_towns) (o_sl (a_of_d (d_tup (l_cons (a_of_d (d_str)) (l_cons (a_of_d (d_str)) (l_cons (a_of_d (d_str)) (l_cons (a_of_d (d_str)) (l_nil))))))) (pt_none) (pt_some (d_of_o (o_op ao_add (a_of_d (d_int)) (a_of_d (d_of_o (o_fnO F_draw hg (hr.mono (by decide)) s_charter__law_draw Z.g_draw Z.k_draw Z.b_draw tk (l_cons (a_name (pe_var (i := 0) rfl (.inl s_charter_feed))) (l_cons (a_of_d (d_name (pe_var (i := 1) rfl (.inl s_charter_most)))) (l_nil))) rfl (ll_cons (ll_cons (ll_nil))))))))))) (ss_one (s_ret (o_of_d (d_tup (l_cons (a_of_d (d_name (pe_var (i := 4) rfl (.inl s_charter_towns)))) (l_cons (a_of_d (d_name (pe_var (i := 2) rfl (.inl s_charter_seats)))) (l_cons (a_of_d (d_of_o (o_op ao_add (a_name (pe_var (i := 3) rfl (.inl s_charter_low))) (a_of_d (d_of_o (o_fnO F_draw hg (hr.mono (by decide)) s_charter__law_draw Z.g_draw Z.k_draw Z.b_draw tk (l_cons (a_name (pe_var (i := 0) rfl (.inl s_charter_feed))) (l_cons (a_of_d (d_of_o (o_op ao_add (a_of_d (d_op od_sub (a_name (pe_var (i := 2) rfl (.inl s_charter_seats))) (a_name (pe_var (i := 3) rfl (.inl s_charter_low))))) (a_of_d (d_int))))) (l_nil))) rfl (ll_cons (ll_cons (ll_nil))))))))) (l_cons (a_of_d (d_of_o (o_fnO F_any hg (hr.mono (by decide)) s_charter__law_any Z.g_any Z.k_any Z.b_any tk (l_cons (a_name (pe_var (i := 0) rfl (.inl s_charter_feed))) (l_cons (a_of_d (d_of_o (o_lst (l_cons (a_of_d (d_int)) (l_cons (a_of_d (d_int)) (l_cons (a_of_d (d_int)) (l_cons (a_of_d (d_int)) (l_cons (a_of_d (d_int)) (l_nil))))))))) (l_nil))) rfl (ll_cons (ll_cons (ll_nil)))))) (l_nil)))))))))))
theorem ok_folk {f : Addr} {fd : FuncData} (Z : Zs K mg f_matter_of d_matter_of f_path_of d_path_of f_root_of d_root_of f_path_voices d_path_voices f_feed d_feed f_draw d_draw f_any d_any f_charter d_charter f_folk d_folk f_cause d_cause f_way d_way f_heads d_heads f_few d_few f_said d_said f_causes d_causes C_NoName I_NoName J_NoName A_NoPaper A_NoMatter A_NoRight A_NoHand A_NoStep A_NoTown A_NoRow A_NoMore A_NoText A_NoDeed A_BenchError A_LackError) (F0 : Fun K "_law_folk" "_law_folk" st_folk f fd) (F_draw : FnG P w K mg base (L2.CX P w) 1 f_draw d_draw ["feed", "many"] (spI K w mg (XRin ["NoName"] ⟨K, w, mg, none, none⟩) 2 Lw.fn_draw_3)) : FnG P w K mg base (L2.CX P w) 2 f fd ["feed", "charter", "most"] (spI K w mg (XRin ["NoName"] ⟨K, w, mg, none, none⟩) 3 Lw.fn_folk) := by
  refine okI (N := ["feed", "charter", "most", "pool", "place", "many", "k", "word"]) (ps := ["feed", "charter", "most"]) (k := 1) (body := Lw.m_folk) [true, false, false] F0 sc_folk rfl (by decide) fun cdv A outer s H E hg hr => ?_
  have hu := hr.units
  have hu1 := hr.units1
  have tk : Takes (cxOf (L2.CX P w) P w K mg base ["feed", "charter", "most", "pool", "place", "many", "k", "word"] "_law_folk" (defScope st_folk) f cdv A outer s H E) (fun cls d _ H' => E cls d H') := takes_of rfl rfl rfl rfl
  exact ss_cons (s_set (i := 3) sc_folk.nd rfl (.inr s_folk_pool) (o_lst (l_nil))) (ss_cons (s_for (n := 8) (passes_of rfl) rfl (i_seq (d_ix (a_name (pe_var (i := 1) rfl (.inl s_folk_charter))) (a_of_d (d_int)) (fun _ _ => rfl))) (pg_name (i := 4) sc_folk.nd rfl (.inr s_folk_place)) (g_name) (ss_one (s_expr (x_extend (pe_var (i := 3) rfl (.inr (.inl s_folk_pool))) (d_of_o (o_comp (n := 8) (own := [("word", 7)]) rfl sc_folk.nd (i_seq (d_tup (l_cons (a_of_d (d_str)) (l_cons (a_of_d (d_str)) (l_cons (a_of_d (d_str)) (l_cons (a_of_d (d_str)) (l_cons (a_of_d (d_str)) (l_cons (a_of_d (d_str)) (l_nil))))))))) (blkOk_by (N := ["feed", "charter", "most", "pool", "place", "many", "k", "word"]) (sc := defScope st_folk) (own := [("word", 7)]) (by decide +kernel)) (fun _ _ _ _ _ => pg_name (i := 7) sc_folk.nd rfl (.inl rfl)) (g_name) (fun _ _ _ _ _ => c_none) (fun _ _ _ _ _ => d_tup (l_cons (a_of_d (d_name (pe_var (i := 4) rfl (.inr (.inl (blk_look (sc := defScope st_folk) rfl (by decide +kernel))))))) (l_cons (a_of_d (d_name (pe_var (i := 7) rfl (.inl rfl)))) (l_nil)))))))))) (ss_cons (s_set (i := 5) sc_folk.nd rfl (.inl s_folk_many) (o_call (co_min rfl hu) s_folk_min Z.n_min b_min (l_cons (a_of_d (d_of_o (o_call co_len s_folk_len Z.n_len b_len (l_cons (a_name (pe_var (i := 3) rfl (.inr (.inl s_folk_pool)))) (l_nil))))) (l_cons (a_of_d (d_of_o (o_op ao_add (a_of_d (d_int)) (a_of_d (d_of_o (o_fnO F_draw hg (hr.mono (by decide)) s_folk__law_draw Z.g_draw Z.k_draw Z.b_draw tk (l_cons (a_name (pe_var (i := 0) rfl (.inr (.inl s_folk_feed)))) (l_cons (a_of_d (d_op od_sub (a_name (pe_var (i := 2) rfl (.inl s_folk_most))) (a_of_d (d_int)))) (l_nil))) rfl (ll_cons (ll_cons (ll_nil))))))))) (l_nil))))) (ss_one (s_ret (o_call (co_sorted hu) s_folk_sorted Z.n_sorted b_sorted (l_cons (a_of_d (d_of_o (o_comp (n := 8) (own := [("k", 6)]) rfl sc_folk.nd (i_range1 s_folk_range Z.n_range (l_cons (a_name (pe_var (i := 5) rfl (.inl s_folk_many))) (l_nil))) (blkOk_by (N := ["feed", "charter", "most", "pool", "place", "many", "k", "word"]) (sc := defScope st_folk) (own := [("k", 6)]) (by decide +kernel)) (fun _ _ _ _ _ => pg_name (i := 6) sc_folk.nd rfl (.inl rfl)) (g_name) (fun _ _ _ _ _ => c_none) (fun _ _ _ _ _ => x_popAt (pe_var (i := 3) rfl (.inr (.inl (blk_look (sc := defScope st_folk) rfl (by decide +kernel))))) (d_of_o (o_fnO F_draw hg (hr.mono (by decide)) (blk_gl (sc := defScope st_folk) rfl rfl (by decide +kernel)) Z.g_draw Z.k_draw Z.b_draw takes0 (l_cons (a_name (pe_var (i := 0) rfl (.inr (.inl (blk_look (sc := defScope st_folk) rfl (by decide +kernel)))))) (l_cons (a_of_d (d_of_o (o_call co_len (blk_gl (sc := defScope st_folk) rfl rfl (by decide +kernel)) Z.n_len b_len (l_cons (a_name (pe_var (i := 3) rfl (.inr (.inl (blk_look (sc := defScope st_folk) rfl (by decide +kernel)))))) (l_nil))))) (l_nil))) rfl (ll_cons (ll_cons (ll_nil))))))))) (l_nil)))))))
theorem ok_cause {f : Addr} {fd : FuncData} (Z : Zs K mg f_matter_of d_matter_of f_path_of d_path_of f_root_of d_root_of f_path_voices d_path_voices f_feed d_feed f_draw d_draw f_any d_any f_charter d_charter f_folk d_folk f_cause d_cause f_way d_way f_heads d_heads f_few d_few f_said d_said f_causes d_causes C_NoName I_NoName J_NoName A_NoPaper A_NoMatter A_NoRight A_NoHand A_NoStep A_NoTown A_NoRow A_NoMore A_NoText A_NoDeed A_BenchError A_LackError) (F0 : Fun K "_law_cause" "_law_cause" st_cause f fd)  : FnG P w K mg base (L2.CX P w) 1 f fd ["causes", "tag"] (spI K w mg (XRin ["NoName"] ⟨K, w, mg, none, none⟩) 2 Lw.fn_cause) := by
  refine okI (N := ["causes", "tag", "found", "one"]) (ps := ["causes", "tag"]) (k := 0) (body := Lw.m_cause) [false, false] F0 sc_cause rfl (by decide) fun cdv A outer s H E hg hr => ?_
  have hu := hr.units
  have hu1 := hr.units1
  have tk : Takes (cxOf (L2.CX P w) P w K mg base ["causes", "tag", "found", "one"] "_law_cause" (defScope st_cause) f cdv A outer s H E) (fun cls d _ H' => E cls d H') := takes_of rfl rfl rfl rfl
  exact ss_cons (s_setC (n := 4) (own := [("one", 3)]) (i := 2) rfl sc_cause.nd rfl s_cause_found (sw_true rfl s_cause_found rfl rfl) (i_seq (d_name (pe_var (i := 0) rfl (.inl s_cause_causes)))) (blkOk_by (N := ["causes", "tag", "found", "one"]) (sc := defScope st_cause) (own := [("one", 3)]) (by decide +kernel)) (fun _ _ _ _ _ => pg_name (i := 3) sc_cause.nd rfl (.inl rfl)) (g_name) (fun _ _ _ _ _ => c_one (t_cmp (od_eq hu) (a_of_d (d_ix (a_name (pe_var (i := 3) rfl (.inl rfl))) (a_of_d (d_int)) (fun _ _ => rfl))) (a_name (pe_var (i := 1) rfl (.inr (.inl (blk_look (sc := defScope st_cause) rfl (by decide +kernel)))))))) (fun _ _ _ _ _ => d_name (pe_var (i := 3) rfl (.inl rfl)))) (ss_one (s_ret (o_if (t_cmp (od_ne hu) (a_name (pe_var (i := 2) rfl (.inl s_cause_found))) (a_of_d (d_of_o (o_lst (l_nil))))) (o_of_d (d_ix (a_name (pe_var (i := 2) rfl (.inl s_cause_found))) (a_of_d (d_int)) (fun _ _ => rfl))) (o_of_d (d_none)))))
theorem ok_way {f : Addr} {fd : FuncData} (Z : Zs K mg f_matter_of d_matter_of f_path_of d_path_of f_root_of d_root_of f_path_voices d_path_voices f_feed d_feed f_draw d_draw f_any d_any f_charter d_charter f_folk d_folk f_cause d_cause f_way d_way f_heads d_heads f_few d_few f_said d_said f_causes d_causes C_NoName I_NoName J_NoName A_NoPaper A_NoMatter A_NoRight A_NoHand A_NoStep A_NoTown A_NoRow A_NoMore A_NoText A_NoDeed A_BenchError A_LackError) (F0 : Fun K "_law_way" "_law_way" st_way f fd) (F_cause : FnG P w K mg base (L2.CX P w) 1 f_cause d_cause ["causes", "tag"] (spI K w mg (XRin ["NoName"] ⟨K, w, mg, none, none⟩) 2 Lw.fn_cause)) : FnG P w K mg base (L2.CX P w) 2 f fd ["causes", "tag"] (spI K w mg (XRin ["NoName"] ⟨K, w, mg, none, none⟩) 2 Lw.fn_way) := by
  refine okI (N := ["causes", "tag", "found"]) (ps := ["causes", "tag"]) (k := 1) (body := Lw.m_way) [false, false] F0 sc_way rfl (by decide) fun cdv A outer s H E hg hr => ?_
  have hu := hr.units
  have hu1 := hr.units1
  have tk : Takes (cxOf (L2.CX P w) P w K mg base ["causes", "tag", "found"] "_law_way" (defScope st_way) f cdv A outer s H E) (fun cls d _ H' => E cls d H') := takes_of rfl rfl rfl rfl
  exact ss_cons (s_set (i := 2) sc_way.nd rfl (.inl s_way_found) (o_lst (l_nil))) (ss_cons (s_while 5000 (passes_of rfl) (t_notN (a_name (pe_var (i := 1) rfl (.inl s_way_tag)))) (ss_cons (s_expr (x_append (pe_var (i := 2) rfl (.inl s_way_found)) (d_name (pe_var (i := 1) rfl (.inl s_way_tag))))) (ss_one (s_set (i := 1) sc_way.nd rfl (.inl s_way_tag) (o_of_d (d_ix (a_of_d (d_of_o (o_fn F_cause hg (hr.mono (by decide)) s_way__law_cause Z.g_cause Z.k_cause Z.b_cause tk (l_cons (a_of_d (d_name (pe_var (i := 0) rfl (.inl s_way_causes)))) (l_cons (a_of_d (d_name (pe_var (i := 1) rfl (.inl s_way_tag)))) (l_nil))) rfl (ll_cons (ll_cons (ll_nil)))))) (a_of_d (d_int)) (fun _ _ => rfl))))))) (ss_one (s_ret (o_take (pe_var (i := 2) rfl (.inl s_way_found))))))
theorem ok_heads {f : Addr} {fd : FuncData} (Z : Zs K mg f_matter_of d_matter_of f_path_of d_path_of f_root_of d_root_of f_path_voices d_path_voices f_feed d_feed f_draw d_draw f_any d_any f_charter d_charter f_folk d_folk f_cause d_cause f_way d_way f_heads d_heads f_few d_few f_said d_said f_causes d_causes C_NoName I_NoName J_NoName A_NoPaper A_NoMatter A_NoRight A_NoHand A_NoStep A_NoTown A_NoRow A_NoMore A_NoText A_NoDeed A_BenchError A_LackError) (F0 : Fun K "_law_heads" "_law_heads" st_heads f fd) (F_way : FnG P w K mg base (L2.CX P w) 2 f_way d_way ["causes", "tag"] (spI K w mg (XRin ["NoName"] ⟨K, w, mg, none, none⟩) 2 Lw.fn_way)) (F_cause : FnG P w K mg base (L2.CX P w) 1 f_cause d_cause ["causes", "tag"] (spI K w mg (XRin ["NoName"] ⟨K, w, mg, none, none⟩) 2 Lw.fn_cause)) : FnG P w K mg base (L2.CX P w) 3 f fd ["causes", "tag"] (spI K w mg (XRin ["NoName"] ⟨K, w, mg, none, none⟩) 2 Lw.fn_heads) := by
  refine okI (N := ["causes", "tag", "found", "own"]) (ps := ["causes", "tag"]) (k := 2) (body := Lw.m_heads) [false, false] F0 sc_heads rfl (by decide) fun cdv A outer s H E hg hr => ?_
  have hu := hr.units
  have hu1 := hr.units1
  have tk : Takes (cxOf (L2.CX P w) P w K mg base ["causes", "tag", "found", "own"] "_law_heads" (defScope st_heads) f cdv A outer s H E) (fun cls d _ H' => E cls d H') := takes_of rfl rfl rfl rfl
  exact ss_cons (s_set (i := 2) sc_heads.nd rfl (.inl s_heads_found) (o_lst (l_nil))) (ss_cons (s_for (n := 4) (passes_of rfl) rfl (i_seq (d_of_o (o_fn F_way hg (hr.mono (by decide)) s_heads__law_way Z.g_way Z.k_way Z.b_way tk (l_cons (a_of_d (d_name (pe_var (i := 0) rfl (.inl s_heads_causes)))) (l_cons (a_of_d (d_name (pe_var (i := 1) rfl (.inl s_heads_tag)))) (l_nil))) rfl (ll_cons (ll_cons (ll_nil)))))) (pg_name (i := 3) sc_heads.nd rfl (.inl s_heads_own)) (g_name) (ss_one (s_expr (x_extend (pe_var (i := 2) rfl (.inl s_heads_found)) (d_of_o (o_callTy co_list s_heads_list Z.n_list b_list (l_cons (a_of_d (d_ix (a_of_d (d_of_o (o_fn F_cause hg (hr.mono (by decide)) s_heads__law_cause Z.g_cause Z.k_cause Z.b_cause tk (l_cons (a_of_d (d_name (pe_var (i := 0) rfl (.inl s_heads_causes)))) (l_cons (a_of_d (d_name (pe_var (i := 3) rfl (.inl s_heads_own)))) (l_nil))) rfl (ll_cons (ll_cons (ll_nil)))))) (a_of_d (d_int)) (fun _ _ => rfl))) (l_nil)))))))) (ss_one (s_ret (o_sset rfl hu s_heads_sorted Z.n_sorted s_heads_set Z.n_set (l_cons (a_name (pe_var (i := 2) rfl (.inl s_heads_found))) (l_nil))))))
theorem ok_few {f : Addr} {fd : FuncData} (Z : Zs K mg f_matter_of d_matter_of f_path_of d_path_of f_root_of d_root_of f_path_voices d_path_voices f_feed d_feed f_draw d_draw f_any d_any f_charter d_charter f_folk d_folk f_cause d_cause f_way d_way f_heads d_heads f_few d_few f_said d_said f_causes d_causes C_NoName I_NoName J_NoName A_NoPaper A_NoMatter A_NoRight A_NoHand A_NoStep A_NoTown A_NoRow A_NoMore A_NoText A_NoDeed A_BenchError A_LackError) (F0 : Fun K "_law_few" "_law_few" st_few f fd) (F_draw : FnG P w K mg base (L2.CX P w) 1 f_draw d_draw ["feed", "many"] (spI K w mg (XRin ["NoName"] ⟨K, w, mg, none, none⟩) 2 Lw.fn_draw_3)) : FnG P w K mg base (L2.CX P w) 2 f fd ["feed", "folk", "most"] (spI K w mg (XRin ["NoName"] ⟨K, w, mg, none, none⟩) 3 Lw.fn_few) := by
  refine okI (N := ["feed", "folk", "most", "pool", "found", "k"]) (ps := ["feed", "folk", "most"]) (k := 1) (body := Lw.m_few) [true, false, false] F0 sc_few rfl (by decide) fun cdv A outer s H E hg hr => ?_
  have hu := hr.units
  have hu1 := hr.units1
  have tk : Takes (cxOf (L2.CX P w) P w K mg base ["feed", "folk", "most", "pool", "found", "k"] "_law_few" (defScope st_few) f cdv A outer s H E) (fun cls d _ H' => E cls d H') := takes_of rfl rfl rfl rfl
  exact ss_cons (s_par rfl sc_few.nd rfl rfl s_few_pool s_few_found (o_callTy co_list s_few_list Z.n_list b_list (l_cons (a_name (pe_var (i := 1) rfl (.inl s_few_folk))) (l_nil))) (o_lst (l_nil))) (ss_cons (s_for (n := 6) (passes_of rfl) rfl (i_range1 s_few_range Z.n_range (l_cons (a_of_d (d_of_o (o_call (co_min rfl hu) s_few_min Z.n_min b_min (l_cons (a_of_d (d_of_o (o_call co_len s_few_len Z.n_len b_len (l_cons (a_name (pe_var (i := 3) rfl (.inl s_few_pool))) (l_nil))))) (l_cons (a_of_d (d_of_o (o_fnO F_draw hg (hr.mono (by decide)) s_few__law_draw Z.g_draw Z.k_draw Z.b_draw tk (l_cons (a_name (pe_var (i := 0) rfl (.inl s_few_feed))) (l_cons (a_of_d (d_of_o (o_op ao_add (a_name (pe_var (i := 2) rfl (.inl s_few_most))) (a_of_d (d_int))))) (l_nil))) rfl (ll_cons (ll_cons (ll_nil)))))) (l_nil)))))) (l_nil))) (pg_name (i := 5) sc_few.nd rfl (.inl s_few_k)) (g_name) (ss_one (s_expr (x_append (pe_var (i := 4) rfl (.inl s_few_found)) (x_popAt (pe_var (i := 3) rfl (.inl s_few_pool)) (d_of_o (o_fnO F_draw hg (hr.mono (by decide)) s_few__law_draw Z.g_draw Z.k_draw Z.b_draw tk (l_cons (a_name (pe_var (i := 0) rfl (.inl s_few_feed))) (l_cons (a_of_d (d_of_o (o_call co_len s_few_len Z.n_len b_len (l_cons (a_name (pe_var (i := 3) rfl (.inl s_few_pool))) (l_nil))))) (l_nil))) rfl (ll_cons (ll_cons (ll_nil)))))))))) (ss_one (s_ret (o_callTy co_tuple s_few_tuple Z.n_tuple b_tuple (l_cons (a_of_d (d_of_o (o_call (co_sorted hu) s_few_sorted Z.n_sorted b_sorted (l_cons (a_name (pe_var (i := 4) rfl (.inl s_few_found))) (l_nil))))) (l_nil))))))
theorem body_said {li : LamI} {nC : Nat} {mb : M OD} {A : Around} {outer : List Env} {s : Shared} {H : Hp} {cdv : Value} {k : Nat} (Z : Zs K mg f_matter_of d_matter_of f_path_of d_path_of f_root_of d_root_of f_path_voices d_path_voices f_feed d_feed f_draw d_draw f_any d_any f_charter d_charter f_folk d_folk f_cause d_cause f_way d_way f_heads d_heads f_few d_few f_said d_said f_causes d_causes C_NoName I_NoName J_NoName A_NoPaper A_NoMatter A_NoRight A_NoHand A_NoStep A_NoTown A_NoRow A_NoMore A_NoText A_NoDeed A_BenchError A_LackError) (hg : A.guards = some []) (hr : Room k (A.deeper (PyProof.Rows.envOfC "_law_said" (defScope st_said) s.heap.objs.size f_said cdv)))
    (act : ∀ (W : WX) (pn : List (Addr × Obj)) (xe : Value → Shared → Prop) (p1 p2 : Pos), Takes ((cxOf (L2.CX P w) P w K mg base ["ask", "found", "some", "strange", "base", "e"] "_law_said" (defScope st_said) f_said cdv A outer s H (fun _ _ _ => False)).tr pn xe) W → PE ((cxOf (L2.CX P w) P w K mg base ["ask", "found", "some", "strange", "base", "e"] "_law_said" (defScope st_said) f_said cdv A outer s H (fun _ _ _ => False)).tr pn xe) (.Call (.Name "ask" p1) [] [] p2) (tO ⟨⟨K, w, mg, none, some li⟩, W, (XRin ["NoName"] ⟨K, w, mg, none, none⟩)⟩ (mAsk 0 nC mb)))  :
    PSs (cxOf (L2.CX P w) P w K mg base ["ask", "found", "some", "strange", "base", "e"] "_law_said" (defScope st_said) f_said cdv A outer s H (fun _ _ _ => False)) (defBody st_said) (tS ⟨⟨K, w, mg, none, some li⟩, fun _ _ _ _ => False, (XRin ["NoName"] ⟨K, w, mg, none, none⟩)⟩ [] (Lw.m_said_2 nC mb)) := by
  have hu := hr.units
  have hu1 := hr.units1
  have tk : Takes (cxOf (L2.CX P w) P w K mg base ["ask", "found", "some", "strange", "base", "e"] "_law_said" (defScope st_said) f_said cdv A outer s H (fun _ _ _ => False)) (fun _ _ _ _ => False) := takes_of rfl rfl rfl rfl
  exact ss_cons (s_set (i := 1) sc_said.nd rfl (.inl s_said_found) (o_of_d (d_tup (l_cons (a_of_d (d_str)) (l_cons (a_of_d (d_none)) (l_nil)))))) (ss_cons (s_try_two (i := 5) (hit := fun _ => true) rfl rfl sc_said.nd rfl s_said_e ⟨s_said_BenchError, by decide, .inl Z.g_BenchError⟩ ⟨s_said_LackError, by decide, .inl Z.g_LackError⟩ tk (fun _ _ _ _ _ h => hitAny (nms := ["NoName"]) (hit := fun _ => true) (List.forall_mem_cons.mpr ⟨hitsT Z.g_NoName Z.hs_NoName_BenchError_LackError, (fun _ h => nomatch h)⟩) h) (fun _ _ _ _ _ h => xrLam h.2) (fun W pn xe tk => ss_one (s_set (i := 1) sc_said.nd rfl (.inl s_said_found) (o_of_d (d_tup (l_cons (a_of_d (d_str)) (l_cons (a_of_d (d_of_o (act _ _ _ _ _ tk))) (l_nil))))))) (fun a oe pn hfl => ss_clr (ss_cons (s_set (i := 2) sc_said.nd rfl (.inl s_said_some) (o_lst (l_cons (a_of_d (d_isE hfl (List.forall_mem_cons.mpr ⟨isT1 Z.g_NoName Z.i_NoName (Z.k_NoName_NoRight.trans (congrArg some (by decide +kernel))), (fun _ h => nomatch h)⟩) (i := 5) rfl (.inl s_said_e) s_said_isinstance Z.n_isinstance (pe_glob (v := .ref A_NoRight) s_said_NoRight Z.g_NoRight rfl) (fun _ h => h))) (l_cons (a_of_d (d_isE hfl (List.forall_mem_cons.mpr ⟨isT1 Z.g_NoName Z.i_NoName (Z.k_NoName_NoMatter.trans (congrArg some (by decide +kernel))), (fun _ h => nomatch h)⟩) (i := 5) rfl (.inl s_said_e) s_said_isinstance Z.n_isinstance (pe_glob (v := .ref A_NoMatter) s_said_NoMatter Z.g_NoMatter rfl) (fun _ h => h))) (l_cons (a_of_d (d_isE hfl (List.forall_mem_cons.mpr ⟨isT1 Z.g_NoName Z.i_NoName (Z.k_NoName_NoPaper.trans (congrArg some (by decide +kernel))), (fun _ h => nomatch h)⟩) (i := 5) rfl (.inl s_said_e) s_said_isinstance Z.n_isinstance (pe_glob (v := .ref A_NoPaper) s_said_NoPaper Z.g_NoPaper rfl) (fun _ h => h))) (l_nil)))))) (ss_cons (s_set (i := 2) sc_said.nd rfl (.inl s_said_some) (o_op ao_add (a_name (pe_var (i := 2) rfl (.inl s_said_some))) (a_of_d (d_of_o (o_lst (l_cons (a_of_d (d_isE hfl (List.forall_mem_cons.mpr ⟨isT1 Z.g_NoName Z.i_NoName (Z.k_NoName_NoName.trans (congrArg some (by decide +kernel))), (fun _ h => nomatch h)⟩) (i := 5) rfl (.inl s_said_e) s_said_isinstance Z.n_isinstance (pe_glob (v := .ref C_NoName) s_said_NoName Z.g_NoName rfl) (fun _ h => h))) (l_cons (a_of_d (d_isE hfl (List.forall_mem_cons.mpr ⟨isT1 Z.g_NoName Z.i_NoName (Z.k_NoName_NoHand.trans (congrArg some (by decide +kernel))), (fun _ h => nomatch h)⟩) (i := 5) rfl (.inl s_said_e) s_said_isinstance Z.n_isinstance (pe_glob (v := .ref A_NoHand) s_said_NoHand Z.g_NoHand rfl) (fun _ h => h))) (l_nil)))))))) (ss_cons (s_set (i := 3) sc_said.nd rfl (.inl s_said_strange) (o_of_d (d_isEs hfl (List.forall_mem_cons.mpr ⟨isTs Z.g_NoName Z.i_NoName (Z.ks_NoName_NoDeed_NoText_NoMore_NoRow_NoTown_NoStep.trans (congrArg some (by decide +kernel))), (fun _ h => nomatch h)⟩) (i := 5) rfl (.inl s_said_e) s_said_isinstance Z.n_isinstance (cs_cons (pe_glob (v := .ref A_NoDeed) s_said_NoDeed Z.g_NoDeed rfl) (cs_cons (pe_glob (v := .ref A_NoText) s_said_NoText Z.g_NoText rfl) (cs_cons (pe_glob (v := .ref A_NoMore) s_said_NoMore Z.g_NoMore rfl) (cs_cons (pe_glob (v := .ref A_NoRow) s_said_NoRow Z.g_NoRow rfl) (cs_cons (pe_glob (v := .ref A_NoTown) s_said_NoTown Z.g_NoTown rfl) (cs_cons (pe_glob (v := .ref A_NoStep) s_said_NoStep Z.g_NoStep rfl) (cs_nil))))))) (Nat.le_of_ble_eq_true rfl) (vsS (fun _ h => h) (vsS (fun _ h => h) (vsS (fun _ h => h) (vsS (fun _ h => h) (vsS (fun _ h => h) (vsS (fun _ h => h) (vs0)))))))))) (ss_cons (s_set (i := 4) sc_said.nd rfl (.inl s_said_base) (o_if (t_cmp (od_in hu) (a_of_d (d_bool)) (a_of_d (d_of_o (o_sl (a_name (pe_var (i := 2) rfl (.inl s_said_some))) (pt_none) (pt_some (d_int)))))) (o_of_d (d_isE hfl (List.forall_mem_cons.mpr ⟨isT1 Z.g_NoName Z.i_NoName (Z.k_NoName_ValueError.trans (congrArg some (by decide +kernel))), (fun _ h => nomatch h)⟩) (i := 5) rfl (.inl s_said_e) s_said_isinstance Z.n_isinstance (pe_bltn (v := .ty "ValueError") s_said_ValueError Z.n_ValueError rfl rfl) (fun _ h => h))) (o_of_d (d_isE hfl (List.forall_mem_cons.mpr ⟨isT1 Z.g_NoName Z.i_NoName (Z.k_NoName_LookupError.trans (congrArg some (by decide +kernel))), (fun _ h => nomatch h)⟩) (i := 5) rfl (.inl s_said_e) s_said_isinstance Z.n_isinstance (pe_bltn (v := .ty "LookupError") s_said_LookupError Z.n_LookupError rfl rfl) (fun _ h => h))))) (ss_one (s_if (t_w (w_and (t_cmp (od_eq hu) (a_of_d (x_count hu (pe_var (i := 2) rfl (.inl s_said_some)) (d_bool))) (a_of_d (d_int))) (w_and (t_not (t_tru (d_name (pe_var (i := 3) rfl (.inl s_said_strange))))) (w_and (t_tru (d_name (pe_var (i := 4) rfl (.inl s_said_base)))) (w_one1 (t_cmp (od_eq hu) (a_of_d (d_isE hfl (List.forall_mem_cons.mpr ⟨isT1 Z.g_NoName Z.i_NoName (Z.k_NoName_BenchError.trans (congrArg some (by decide +kernel))), (fun _ h => nomatch h)⟩) (i := 5) rfl (.inl s_said_e) s_said_isinstance Z.n_isinstance (pe_glob (v := .ref A_BenchError) s_said_BenchError Z.g_BenchError rfl) (fun _ h => h))) (a_of_d (d_cmp (od_in hu) (a_of_d (d_bool)) (a_of_d (d_of_o (o_sl (a_name (pe_var (i := 2) rfl (.inl s_said_some))) (pt_none) (pt_some (d_int))))))))))))) (ss_one (s_if (t_tru (d_ix (a_name (pe_var (i := 2) rfl (.inl s_said_some))) (a_of_d (d_int)) (fun _ _ => rfl))) (ss_one (s_set (i := 1) sc_said.nd rfl (.inl s_said_found) (o_of_d (d_tup (l_cons (a_of_d (d_str)) (l_cons (a_of_d (d_xf hfl (fun _ h => nomatch h) (i := 5) rfl (.inl s_said_e))) (l_cons (a_of_d (d_xf hfl (fun _ h => nomatch h) (i := 5) rfl (.inl s_said_e))) (l_nil)))))))) (ss_one (s_if (t_tru (d_ix (a_name (pe_var (i := 2) rfl (.inl s_said_some))) (a_of_d (d_int)) (fun _ _ => rfl))) (ss_one (s_set (i := 1) sc_said.nd rfl (.inl s_said_found) (o_of_d (d_tup (l_cons (a_of_d (d_str)) (l_cons (a_of_d (d_xf hfl (fun _ h => nomatch h) (i := 5) rfl (.inl s_said_e))) (l_nil))))))) (ss_one (s_if (t_tru (d_ix (a_name (pe_var (i := 2) rfl (.inl s_said_some))) (a_of_d (d_int)) (fun _ _ => rfl))) (ss_one (s_set (i := 1) sc_said.nd rfl (.inl s_said_found) (o_of_d (d_tup (l_cons (a_of_d (d_str)) (l_cons (a_of_d (d_xf hfl (fun _ h => nomatch h) (i := 5) rfl (.inl s_said_e))) (l_cons (a_of_d (d_xf hfl (fun _ h => nomatch h) (i := 5) rfl (.inl s_said_e))) (l_nil)))))))) (ss_one (s_set (i := 1) sc_said.nd rfl (.inl s_said_found) (o_if (t_tru (d_ix (a_name (pe_var (i := 2) rfl (.inl s_said_some))) (a_of_d (d_int)) (fun _ _ => rfl))) (o_of_d (d_tup (l_cons (a_of_d (d_str)) (l_cons (a_of_d (d_xf hfl (List.forall_mem_cons.mpr ⟨fldT Z.g_NoName Z.e_NoName.xf (Z.e_NoName.no _ (by decide)), (fun _ h => nomatch h)⟩) (i := 5) rfl (.inl s_said_e))) (l_nil))))) (o_of_d (d_tup (l_cons (a_of_d (d_str)) (l_cons (a_of_d (d_xf hfl (fun _ h => nomatch h) (i := 5) rfl (.inl s_said_e))) (l_nil)))))))))))))) (ss_nil))))))))) (ss_one (s_ret (o_take (pe_var (i := 1) rfl (.inl s_said_found))))))
theorem ok_causes {f : Addr} {fd : FuncData} (Z : Zs K mg f_matter_of d_matter_of f_path_of d_path_of f_root_of d_root_of f_path_voices d_path_voices f_feed d_feed f_draw d_draw f_any d_any f_charter d_charter f_folk d_folk f_cause d_cause f_way d_way f_heads d_heads f_few d_few f_said d_said f_causes d_causes C_NoName I_NoName J_NoName A_NoPaper A_NoMatter A_NoRight A_NoHand A_NoStep A_NoTown A_NoRow A_NoMore A_NoText A_NoDeed A_BenchError A_LackError) (F0 : Fun K "_law_causes" "_law_causes" st_causes f fd) (F_draw : FnG P w K mg base (L2.CX P w) 1 f_draw d_draw ["feed", "many"] (spI K w mg (XRin ["NoName"] ⟨K, w, mg, none, none⟩) 2 Lw.fn_draw_3)) (F_any : FnG P w K mg base (L2.CX P w) 2 f_any d_any ["feed", "some"] (spI K w mg (XRin ["NoName"] ⟨K, w, mg, none, none⟩) 2 Lw.fn_any)) (F_way : FnG P w K mg base (L2.CX P w) 2 f_way d_way ["causes", "tag"] (spI K w mg (XRin ["NoName"] ⟨K, w, mg, none, none⟩) 2 Lw.fn_way)) (F_few : FnG P w K mg base (L2.CX P w) 2 f_few d_few ["feed", "folk", "most"] (spI K w mg (XRin ["NoName"] ⟨K, w, mg, none, none⟩) 3 Lw.fn_few)) : FnG P w K mg base (L2.CX P w) 3 f fd ["feed", "folk"] (spI K w mg (XRin ["NoName"] ⟨K, w, mg, none, none⟩) 2 Lw.fn_causes) := by
  refine okI (N := ["feed", "folk", "tags", "k", "tag", "found", "short", "under", "some", "end", "one"]) (ps := ["feed", "folk"]) (k := 2) (body := Lw.m_causes) [true, false] F0 sc_causes rfl (by decide) fun cdv A outer s H E hg hr => ?_
  have hu := hr.units
  have hu1 := hr.units1
  have tk : Takes (cxOf (L2.CX P w) P w K mg base ["feed", "folk", "tags", "k", "tag", "found", "short", "under", "some", "end", "one"] "_law_causes" (defScope st_causes) f cdv A outer s H E) (fun cls d _ H' => E cls d H') := takes_of rfl rfl rfl rfl
  exact ss_cons (s_set (i := 2) sc_causes.nd rfl (.inl s_causes_tags) (o_lst (l_nil))) (ss_cons (s_for (n := 11) (passes_of rfl) rfl (i_range1 s_causes_range Z.n_range (l_cons (a_of_d (d_of_o (o_op ao_add (a_of_d (d_int)) (a_of_d (d_of_o (o_fnO F_draw hg (hr.mono (by decide)) s_causes__law_draw Z.g_draw Z.k_draw Z.b_draw tk (l_cons (a_name (pe_var (i := 0) rfl (.inl s_causes_feed))) (l_cons (a_of_d (d_int)) (l_nil))) rfl (ll_cons (ll_cons (ll_nil))))))))) (l_nil))) (pg_name (i := 3) sc_causes.nd rfl (.inl s_causes_k)) (g_name) (ss_cons (s_set (i := 4) sc_causes.nd rfl (.inl s_causes_tag) (o_of_d (d_tup (l_cons (a_of_d (d_of_o (o_fnO F_any hg (hr.mono (by decide)) s_causes__law_any Z.g_any Z.k_any Z.b_any tk (l_cons (a_name (pe_var (i := 0) rfl (.inl s_causes_feed))) (l_cons (a_of_d (d_of_o (o_lst (l_cons (a_of_d (d_str)) (l_cons (a_of_d (d_str)) (l_cons (a_of_d (d_str)) (l_nil))))))) (l_nil))) rfl (ll_cons (ll_cons (ll_nil)))))) (l_cons (a_of_d (d_of_o (o_fnO F_draw hg (hr.mono (by decide)) s_causes__law_draw Z.g_draw Z.k_draw Z.b_draw tk (l_cons (a_name (pe_var (i := 0) rfl (.inl s_causes_feed))) (l_cons (a_of_d (d_int)) (l_nil))) rfl (ll_cons (ll_cons (ll_nil)))))) (l_cons (a_of_d (d_of_o (o_fnO F_draw hg (hr.mono (by decide)) s_causes__law_draw Z.g_draw Z.k_draw Z.b_draw tk (l_cons (a_name (pe_var (i := 0) rfl (.inl s_causes_feed))) (l_cons (a_of_d (d_int)) (l_nil))) rfl (ll_cons (ll_cons (ll_nil)))))) (l_nil))))))) (ss_one (s_if (t_cmp (od_notIn hu) (a_name (pe_var (i := 4) rfl (.inl s_causes_tag))) (a_name (pe_var (i := 2) rfl (.inl s_causes_tags)))) (ss_one (s_expr (x_append (pe_var (i := 2) rfl (.inl s_causes_tags)) (d_name (pe_var (i := 4) rfl (.inl s_causes_tag)))))) (ss_nil))))) (ss_cons (s_set (i := 5) sc_causes.nd rfl (.inr s_causes_found) (o_of_d (d_tup (l_nil)))) (ss_cons (s_for (n := 11) (passes_of rfl) rfl (i_seq (d_of_o (o_call (co_sorted hu) s_causes_sorted Z.n_sorted b_sorted (l_cons (a_name (pe_var (i := 2) rfl (.inl s_causes_tags))) (l_nil))))) (pg_name (i := 4) sc_causes.nd rfl (.inl s_causes_tag)) (g_name) (ss_cons (s_setC (n := 11) (own := [("one", 10)]) (i := 6) rfl sc_causes.nd rfl s_causes_short (sw_true rfl s_causes_short rfl rfl) (i_seq (d_name (pe_var (i := 5) rfl (.inr (.inl s_causes_found))))) (blkOk_by (N := ["feed", "folk", "tags", "k", "tag", "found", "short", "under", "some", "end", "one"]) (sc := defScope st_causes) (own := [("one", 10)]) (by decide +kernel)) (fun _ _ _ _ _ => pg_name (i := 10) sc_causes.nd rfl (.inl rfl)) (g_name) (fun _ _ _ _ _ => c_one (t_cmp (od_lt hu) (a_of_d (d_of_o (o_call co_len (blk_gl (sc := defScope st_causes) rfl rfl (by decide +kernel)) Z.n_len b_len (l_cons (a_of_d (d_of_o (o_fn F_way hg (hr.mono (by decide)) (blk_gl (sc := defScope st_causes) rfl rfl (by decide +kernel)) Z.g_way Z.k_way Z.b_way takes0 (l_cons (a_of_d (d_name (pe_var (i := 5) rfl (.inr (.inl (blk_look (sc := defScope st_causes) rfl (by decide +kernel))))))) (l_cons (a_of_d (d_ix (a_name (pe_var (i := 10) rfl (.inl rfl))) (a_of_d (d_int)) (fun _ _ => rfl))) (l_nil))) rfl (ll_cons (ll_cons (ll_nil)))))) (l_nil))))) (a_of_d (d_int)))) (fun _ _ _ _ _ => d_ix (a_name (pe_var (i := 10) rfl (.inl rfl))) (a_of_d (d_int)) (fun _ _ => rfl))) (ss_cons (s_set (i := 7) sc_causes.nd rfl (.inl s_causes_under) (o_if (t_w (w_and (t_cmp (od_ne hu) (a_name (pe_var (i := 6) rfl (.inl s_causes_short))) (a_of_d (d_of_o (o_lst (l_nil))))) (w_one1 (t_cmp (od_gt hu) (a_of_d (d_of_o (o_fnO F_draw hg (hr.mono (by decide)) s_causes__law_draw Z.g_draw Z.k_draw Z.b_draw tk (l_cons (a_name (pe_var (i := 0) rfl (.inl s_causes_feed))) (l_cons (a_of_d (d_int)) (l_nil))) rfl (ll_cons (ll_cons (ll_nil)))))) (a_of_d (d_int)))))) (o_fnO F_any hg (hr.mono (by decide)) s_causes__law_any Z.g_any Z.k_any Z.b_any tk (l_cons (a_name (pe_var (i := 0) rfl (.inl s_causes_feed))) (l_cons (a_of_d (d_name (pe_var (i := 6) rfl (.inl s_causes_short)))) (l_nil))) rfl (ll_cons (ll_cons (ll_nil)))) (o_of_d (d_none)))) (ss_cons (s_set (i := 8) sc_causes.nd rfl (.inl s_causes_some) (o_fnO F_few hg (hr.mono (by decide)) s_causes__law_few Z.g_few Z.k_few Z.b_few tk (l_cons (a_name (pe_var (i := 0) rfl (.inl s_causes_feed))) (l_cons (a_of_d (d_name (pe_var (i := 1) rfl (.inl s_causes_folk)))) (l_cons (a_of_d (d_int)) (l_nil)))) rfl (ll_cons (ll_cons (ll_cons (ll_nil)))))) (ss_cons (s_set (i := 9) sc_causes.nd rfl (.inl s_causes_end) (o_fnO F_any hg (hr.mono (by decide)) s_causes__law_any Z.g_any Z.k_any Z.b_any tk (l_cons (a_name (pe_var (i := 0) rfl (.inl s_causes_feed))) (l_cons (a_of_d (d_of_o (o_lst (l_cons (a_of_d (d_str)) (l_cons (a_of_d (d_str)) (l_cons (a_of_d (d_str)) (l_cons (a_of_d (d_str)) (l_cons (a_of_d (d_str)) (l_cons (a_of_d (d_none)) (l_nil)))))))))) (l_nil))) rfl (ll_cons (ll_cons (ll_nil))))) (ss_one (s_set (i := 5) sc_causes.nd rfl (.inr s_causes_found) (o_op ao_add (a_name (pe_var (i := 5) rfl (.inr (.inl s_causes_found)))) (a_of_d (d_tup (l_cons (a_of_d (d_tup (l_cons (a_of_d (d_name (pe_var (i := 4) rfl (.inl s_causes_tag)))) (l_cons (a_of_d (d_name (pe_var (i := 7) rfl (.inl s_causes_under)))) (l_cons (a_of_d (d_of_o (o_sl (a_name (pe_var (i := 8) rfl (.inl s_causes_some))) (pt_none) (pt_some (d_int))))) (l_cons (a_of_d (d_name (pe_var (i := 8) rfl (.inl s_causes_some)))) (l_cons (a_of_d (d_tup (l_nil))) (l_cons (a_of_d (d_tup (l_nil))) (l_cons (a_of_d (d_name (pe_var (i := 9) rfl (.inl s_causes_end)))) (l_nil)))))))))) (l_nil)))))))))))) (ss_one (s_ret (o_take (pe_var (i := 5) rfl (.inr (.inl s_causes_found)))))))))
theorem ok_law {f : Addr} {fd : FuncData} (Z : Zs K mg f_matter_of d_matter_of f_path_of d_path_of f_root_of d_root_of f_path_voices d_path_voices f_feed d_feed f_draw d_draw f_any d_any f_charter d_charter f_folk d_folk f_cause d_cause f_way d_way f_heads d_heads f_few d_few f_said d_said f_causes d_causes C_NoName I_NoName J_NoName A_NoPaper A_NoMatter A_NoRight A_NoHand A_NoStep A_NoTown A_NoRow A_NoMore A_NoText A_NoDeed A_BenchError A_LackError) (F0 : Fun K "law" "law" st_law f fd) (G_said : Fun K "_law_said" "_law_said" st_said f_said d_said) {c_law P_law : Addr} (hc_law : fd.code = .ref c_law) (tb_law : LamX.TabB base mg c_law P_law) (hmT_law : (P_law, ("law" : Str) ++ ".<locals>." ++ "<lambda>") ∈ Tbs.T) (hu_law : ∀ p ∈ Tbs.T, p.1 = P_law → p.2 = ("law" : Str) ++ ".<locals>." ++ "<lambda>") (F_feed : FnG P w K mg base (L2.CX P w) 1 f_feed d_feed ["script"] (spI K w mg (XRin ["NoName"] ⟨K, w, mg, none, none⟩) 1 Lw.fn_feed_2)) (F_charter : FnG P w K mg base (L2.CX P w) 3 f_charter d_charter ["feed", "most"] (spI K w mg (XRin ["NoName"] ⟨K, w, mg, none, none⟩) 2 Lw.fn_charter)) (F_causes : FnG P w K mg base (L2.CX P w) 3 f_causes d_causes ["feed", "folk"] (spI K w mg (XRin ["NoName"] ⟨K, w, mg, none, none⟩) 2 Lw.fn_causes)) (F_folk : FnG P w K mg base (L2.CX P w) 2 f_folk d_folk ["feed", "charter", "most"] (spI K w mg (XRin ["NoName"] ⟨K, w, mg, none, none⟩) 3 Lw.fn_folk)) (F_heads : FnG P w K mg base (L2.CX P w) 3 f_heads d_heads ["causes", "tag"] (spI K w mg (XRin ["NoName"] ⟨K, w, mg, none, none⟩) 2 Lw.fn_heads)) (F_way : FnG P w K mg base (L2.CX P w) 2 f_way d_way ["causes", "tag"] (spI K w mg (XRin ["NoName"] ⟨K, w, mg, none, none⟩) 2 Lw.fn_way)) (F_path_voices : FnG P w K mg base (L2.CX P w) 5 f_path_voices d_path_voices ["matters", "name"] (spI K w mg (XRin ["NoName"] ⟨K, w, mg, none, none⟩) 2 Lw.fn_path_voices_2)) (F_root_of : FnG P w K mg base (L2.CX P w) 5 f_root_of d_root_of ["matters", "name"] (spI K w mg (XRin ["NoName"] ⟨K, w, mg, none, none⟩) 2 Lw.fn_root_of_2)) (F_path_of : FnG P w K mg base (L2.CX P w) 4 f_path_of d_path_of ["matters", "name"] (spI K w mg (XRin ["NoName"] ⟨K, w, mg, none, none⟩) 2 Lw.fn_path_of_2)) : FnG P w K mg base (L2.CX P w) 9 f fd ["script"] (spI K w mg (XRin ["NoName"] ⟨K, w, mg, none, none⟩) 1 Lw.fn_law_k20) := by
  obtain ⟨oc_said, od_said, kV_said, doc_said, pm_said, an_said, cd_said, ct_said, osl_said, e_said, lk_said, hcd_said⟩ := G_said.ex
  subst e_said
  refine okIc (N := ["script", "feed", "turn", "charter", "causes", "kept", "cause", "tag", "way", "heads", "due", "told", "ask"]) (ps := ["script"]) (k := 8) (body := Lw.m_law_k20) [false] F0 sc_law rfl (by decide) fun cdv A outer s H E hcd hg hr => ?_
  obtain rfl : cdv = .ref c_law := hcd.symm.trans hc_law
  have hu := hr.units
  have hu1 := hr.units1
  have tk : Takes (cxOf (L2.CX P w) P w K mg base ["script", "feed", "turn", "charter", "causes", "kept", "cause", "tag", "way", "heads", "due", "told", "ask"] "law" (defScope st_law) f (.ref c_law) A outer s H E) (fun cls d _ H' => E cls d H') := takes_of rfl rfl rfl rfl
  exact ss_cons (s_set (i := 1) sc_law.nd rfl (.inl s_law_feed) (o_fn F_feed hg (hr.mono (by decide)) s_law__law_feed Z.g_feed Z.k_feed Z.b_feed tk (l_cons (a_name (pe_var (i := 0) rfl (.inl s_law_script))) (l_nil)) rfl (ll_cons (ll_nil)))) (ss_cons (s_for (n := 13) (passes_of rfl) rfl (i_range1 s_law_range Z.n_range (l_cons (a_of_d (d_int)) (l_nil))) (pg_name (i := 2) sc_law.nd rfl (.inl s_law_turn)) (g_name) (ss_cons (s_set (i := 3) sc_law.nd rfl (.inl s_law_charter) (o_fnO F_charter hg (hr.mono (by decide)) s_law__law_charter Z.g_charter Z.k_charter Z.b_charter tk (l_cons (a_name (pe_var (i := 1) rfl (.inl s_law_feed))) (l_cons (a_of_d (d_int)) (l_nil))) rfl (ll_cons (ll_cons (ll_nil))))) (ss_cons (s_set (i := 4) sc_law.nd rfl (.inr s_law_causes) (o_fnO F_causes hg (hr.mono (by decide)) s_law__law_causes Z.g_causes Z.k_causes Z.b_causes tk (l_cons (a_name (pe_var (i := 1) rfl (.inl s_law_feed))) (l_cons (a_of_d (d_of_o (o_fnO F_folk hg (hr.mono (by decide)) s_law__law_folk Z.g_folk Z.k_folk Z.b_folk tk (l_cons (a_name (pe_var (i := 1) rfl (.inl s_law_feed))) (l_cons (a_of_d (d_name (pe_var (i := 3) rfl (.inl s_law_charter)))) (l_cons (a_of_d (d_int)) (l_nil)))) rfl (ll_cons (ll_cons (ll_cons (ll_nil))))))) (l_nil))) rfl (ll_cons (ll_cons (ll_nil))))) (ss_cons (s_set (i := 5) sc_law.nd rfl (.inl s_law_kept) (o_call (co_repr hg hu) s_law_repr Z.n_repr b_repr (l_cons (a_name (pe_var (i := 4) rfl (.inr (.inl s_law_causes)))) (l_nil)))) (ss_cons (s_for (n := 13) (passes_of rfl) rfl (i_seq (d_name (pe_var (i := 4) rfl (.inr (.inl s_law_causes))))) (pg_name (i := 6) sc_law.nd rfl (.inl s_law_cause)) (g_name) (ss_cons (s_un (n := 13) (d_tup (l_cons (a_of_d (d_ix (a_name (pe_var (i := 6) rfl (.inl s_law_cause))) (a_of_d (d_int)) (fun _ _ => rfl))) (l_cons (a_of_d (d_of_o (o_fn F_way hg (hr.mono (by decide)) s_law__law_way Z.g_way Z.k_way Z.b_way tk (l_cons (a_of_d (d_name (pe_var (i := 4) rfl (.inr (.inl s_law_causes))))) (l_cons (a_of_d (d_ix (a_name (pe_var (i := 6) rfl (.inl s_law_cause))) (a_of_d (d_int)) (fun _ _ => rfl))) (l_nil))) rfl (ll_cons (ll_cons (ll_nil)))))) (l_cons (a_of_d (d_of_o (o_fn F_heads hg (hr.mono (by decide)) s_law__law_heads Z.g_heads Z.k_heads Z.b_heads tk (l_cons (a_of_d (d_name (pe_var (i := 4) rfl (.inr (.inl s_law_causes))))) (l_cons (a_of_d (d_ix (a_name (pe_var (i := 6) rfl (.inl s_law_cause))) (a_of_d (d_int)) (fun _ _ => rfl))) (l_nil))) rfl (ll_cons (ll_cons (ll_nil)))))) (l_nil))))) (pg_tup (n := 3) rfl (pgs_cons (pg_name (i := 7) sc_law.nd rfl (.inr s_law_tag)) (pgs_cons (pg_name (i := 8) sc_law.nd rfl (.inl s_law_way)) (pgs_cons (pg_name (i := 9) sc_law.nd rfl (.inl s_law_heads)) (pgs_nil))))) (g_tup (.cons (g_name) (.cons (g_name) (.cons (g_name) (.nil)))))) (ss_cons (s_set (i := 10) sc_law.nd rfl (.inl s_law_due) (o_call (co_repr hg hu) s_law_repr Z.n_repr b_repr (l_cons (a_of_d (d_of_o (o_lst (l_cons (a_of_d (d_of_o (o_callTy co_tuple s_law_tuple Z.n_tuple b_tuple (l_cons (a_name (pe_var (i := 8) rfl (.inl s_law_way))) (l_nil))))) (l_cons (a_of_d (d_ix (a_name (pe_var (i := 8) rfl (.inl s_law_way))) (a_of_d (d_neg (d_int))) (fun _ _ => rfl))) (l_cons (a_of_d (d_of_o (o_callTy co_tuple s_law_tuple Z.n_tuple b_tuple (l_cons (a_name (pe_var (i := 9) rfl (.inl s_law_heads))) (l_nil))))) (l_nil))))))) (l_nil)))) (ss_cons (s_if (t_cmp (od_ne hu) (a_of_d (d_of_o (o_call (co_repr hg hu) s_law_repr Z.n_repr b_repr (l_cons (a_of_d (d_of_o (o_lst (l_cons (a_of_d (d_of_o (o_fn F_path_of hg (hr.mono (by decide)) s_law_path_of Z.g_path_of Z.k_path_of Z.b_path_of tk (l_cons (a_of_d (d_name (pe_var (i := 4) rfl (.inr (.inl s_law_causes))))) (l_cons (a_of_d (d_name (pe_var (i := 7) rfl (.inr (.inl s_law_tag))))) (l_nil))) rfl (ll_cons (ll_cons (ll_nil)))))) (l_cons (a_of_d (d_of_o (o_fn F_root_of hg (hr.mono (by decide)) s_law_root_of Z.g_root_of Z.k_root_of Z.b_root_of tk (l_cons (a_of_d (d_name (pe_var (i := 4) rfl (.inr (.inl s_law_causes))))) (l_cons (a_of_d (d_name (pe_var (i := 7) rfl (.inr (.inl s_law_tag))))) (l_nil))) rfl (ll_cons (ll_cons (ll_nil)))))) (l_cons (a_of_d (d_of_o (o_fn F_path_voices hg (hr.mono (by decide)) s_law_path_voices Z.g_path_voices Z.k_path_voices Z.b_path_voices tk (l_cons (a_of_d (d_name (pe_var (i := 4) rfl (.inr (.inl s_law_causes))))) (l_cons (a_of_d (d_name (pe_var (i := 7) rfl (.inr (.inl s_law_tag))))) (l_nil))) rfl (ll_cons (ll_cons (ll_nil)))))) (l_nil))))))) (l_nil))))) (a_name (pe_var (i := 10) rfl (.inl s_law_due)))) (ss_one (s_ret (o_of_d (d_bool)))) (ss_nil)) (ss_cons (s_set (i := 11) sc_law.nd rfl (.inl s_law_told) (o_lst (l_cons (a_of_d (d_of_o (o_fnP0 (n2 := 2) F_path_of hg (hr.mono (by decide)) s_law_path_of Z.g_path_of Z.k_path_of Z.p_path_of_0_name_matters Z.q_path_of_0_name_matters rfl rfl tk (k_cons (a_of_d (d_name (pe_var (i := 7) rfl (.inr (.inl s_law_tag))))) (k_cons (a_of_d (d_name (pe_var (i := 4) rfl (.inr (.inl s_law_causes))))) (k_nil))) (ll_cons (ll_cons (ll_nil)))))) (l_cons (a_of_d (d_of_o (o_fnP0 (n2 := 2) F_root_of hg (hr.mono (by decide)) s_law_root_of Z.g_root_of Z.k_root_of Z.p_root_of_0_name_matters Z.q_root_of_0_name_matters rfl rfl tk (k_cons (a_of_d (d_name (pe_var (i := 7) rfl (.inr (.inl s_law_tag))))) (k_cons (a_of_d (d_name (pe_var (i := 4) rfl (.inr (.inl s_law_causes))))) (k_nil))) (ll_cons (ll_cons (ll_nil)))))) (l_nil))))) (ss_one (s_if (t_w (w_or (t_cmp (od_ne hu) (a_of_d (d_of_o (o_call (co_repr hg hu) s_law_repr Z.n_repr b_repr (l_cons (a_of_d (d_of_o (o_op ao_add (a_name (pe_var (i := 11) rfl (.inl s_law_told))) (a_of_d (d_of_o (o_lst (l_cons (a_of_d (d_of_o (o_fnP0 (n2 := 2) F_path_voices hg (hr.mono (by decide)) s_law_path_voices Z.g_path_voices Z.k_path_voices Z.p_path_voices_0_name_matters Z.q_path_voices_0_name_matters rfl rfl tk (k_cons (a_of_d (d_name (pe_var (i := 7) rfl (.inr (.inl s_law_tag))))) (k_cons (a_of_d (d_name (pe_var (i := 4) rfl (.inr (.inl s_law_causes))))) (k_nil))) (ll_cons (ll_cons (ll_nil)))))) (l_nil)))))))) (l_nil))))) (a_name (pe_var (i := 10) rfl (.inl s_law_due)))) (w_one2 (t_cmp (od_ne hu) (a_of_d (d_of_o (o_call (co_repr hg hu) s_law_repr Z.n_repr b_repr (l_cons (a_name (pe_var (i := 4) rfl (.inr (.inl s_law_causes)))) (l_nil))))) (a_name (pe_var (i := 5) rfl (.inl s_law_kept))))))) (ss_one (s_ret (o_of_d (d_bool)))) (ss_nil)))))))) (ss_one (s_for (n := 13) (passes_of rfl) rfl (i_seq (d_tup (l_cons (a_of_d (d_tup (l_cons (a_of_d (d_str)) (l_cons (a_of_d (d_int)) (l_cons (a_of_d (d_int)) (l_nil)))))) (l_cons (a_of_d (d_tup (l_cons (a_of_d (d_str)) (l_cons (a_of_d (d_int)) (l_cons (a_of_d (d_int)) (l_nil)))))) (l_cons (a_of_d (d_tup (l_cons (a_of_d (d_str)) (l_cons (a_of_d (d_int)) (l_cons (a_of_d (d_int)) (l_nil)))))) (l_nil)))))) (pg_name (i := 7) sc_law.nd rfl (.inr s_law_tag)) (g_name) (ss_one (s_forF (n := 13) (vs := [.ref f_path_of, .ref f_root_of, .ref f_path_voices]) (passes_of rfl) rfl (cs_cons (pe_glob (v := .ref f_path_of) s_law_path_of Z.g_path_of rfl) (cs_cons (pe_glob (v := .ref f_root_of) s_law_root_of Z.g_root_of rfl) (cs_cons (pe_glob (v := .ref f_path_voices) s_law_path_voices Z.g_path_voices rfl) (cs_nil)))) rfl (fvS Z.g_path_of (fvS Z.g_root_of (fvS Z.g_path_voices (fv0)))) (pg_name (i := 12) sc_law.nd rfl (.inr s_law_ask)) (ss_one (s_if (t_cmp (od_ne hu) (a_of_d (d_of_o (o_call (co_repr hg hu) s_law_repr Z.n_repr b_repr (l_cons (a_of_d (d_of_o (o_lamF (lfS Z.g_path_of (o_lamJ (j0 := 12) (fv := f_path_of) (k := 6) (Ng := ["ask", "found", "some", "strange", "base", "e"]) (nl := 5) s_law__law_said Z.g_said Z.k_said lk_said hcd_said Z.b_said sc_said rfl (.inl s_said_ask) rfl (fun li s2 H2 act => body_said Z hg (hr.deeper _) act ) tb_law rfl hmT_law hu_law hr (show LamX.LamS (defScope st_law) _ from LamX.lamS_by (by decide +kernel)) rfl (fun _ _ _ _ _ => rfl) (fun _ _ _ _ E _ _ hr => o_fnV (j := 12) F_path_of hg (hr.mono (by decide)) rfl (lam_vis (by decide +kernel)) Z.k_path_of Z.b_path_of lam_tk (l_cons (a_of_d (d_name (pe_var (i := 4) rfl (lam_vis (by decide +kernel))))) (l_cons (a_of_d (d_name (pe_var (i := 7) rfl (lam_vis (by decide +kernel))))) (l_nil))) rfl (ll_cons (ll_cons (ll_nil))))) (lfS Z.g_root_of (o_lamJ (j0 := 12) (fv := f_root_of) (k := 6) (Ng := ["ask", "found", "some", "strange", "base", "e"]) (nl := 5) s_law__law_said Z.g_said Z.k_said lk_said hcd_said Z.b_said sc_said rfl (.inl s_said_ask) rfl (fun li s2 H2 act => body_said Z hg (hr.deeper _) act ) tb_law rfl hmT_law hu_law hr (show LamX.LamS (defScope st_law) _ from LamX.lamS_by (by decide +kernel)) rfl (fun _ _ _ _ _ => rfl) (fun _ _ _ _ E _ _ hr => o_fnV (j := 12) F_root_of hg (hr.mono (by decide)) rfl (lam_vis (by decide +kernel)) Z.k_root_of Z.b_root_of lam_tk (l_cons (a_of_d (d_name (pe_var (i := 4) rfl (lam_vis (by decide +kernel))))) (l_cons (a_of_d (d_name (pe_var (i := 7) rfl (lam_vis (by decide +kernel))))) (l_nil))) rfl (ll_cons (ll_cons (ll_nil))))) (lfS Z.g_path_voices (o_lamJ (j0 := 12) (fv := f_path_voices) (k := 6) (Ng := ["ask", "found", "some", "strange", "base", "e"]) (nl := 5) s_law__law_said Z.g_said Z.k_said lk_said hcd_said Z.b_said sc_said rfl (.inl s_said_ask) rfl (fun li s2 H2 act => body_said Z hg (hr.deeper _) act ) tb_law rfl hmT_law hu_law hr (show LamX.LamS (defScope st_law) _ from LamX.lamS_by (by decide +kernel)) rfl (fun _ _ _ _ _ => rfl) (fun _ _ _ _ E _ _ hr => o_fnV (j := 12) F_path_voices hg (hr.mono (by decide)) rfl (lam_vis (by decide +kernel)) Z.k_path_voices Z.b_path_voices lam_tk (l_cons (a_of_d (d_name (pe_var (i := 4) rfl (lam_vis (by decide +kernel))))) (l_cons (a_of_d (d_name (pe_var (i := 7) rfl (lam_vis (by decide +kernel))))) (l_nil))) rfl (ll_cons (ll_cons (ll_nil))))) (lf0))))))) (l_nil))))) (a_of_d (d_of_o (o_call (co_repr hg hu) s_law_repr Z.n_repr b_repr (l_cons (a_of_d (d_tup (l_cons (a_of_d (d_str)) (l_cons (a_of_d (d_name (pe_var (i := 7) rfl (.inr (.inl s_law_tag))))) (l_nil))))) (l_nil)))))) (ss_one (s_ret (o_of_d (d_bool)))) (ss_nil)))))))))))) (ss_one (s_ret (o_of_d (d_cmp (od_eq hu) (a_of_d (d_of_o (o_lam (k := 6) (Ng := ["ask", "found", "some", "strange", "base", "e"]) (nl := 5) s_law__law_said Z.g_said Z.k_said lk_said hcd_said Z.b_said sc_said rfl (.inl s_said_ask) rfl (fun li s2 H2 act => body_said Z hg (hr.deeper _) act ) tb_law rfl hmT_law hu_law hr (show LamX.LamS (defScope st_law) _ from LamX.lamS_by (by decide +kernel)) rfl (fun _ _ _ _ _ => rfl) (fun _ _ _ _ E _ _ hr => o_fn F_path_of hg (hr.mono (by decide)) (lam_gl (by decide +kernel)) Z.g_path_of Z.k_path_of Z.b_path_of lam_tk (l_cons (a_of_d (d_tup (l_nil))) (l_cons (a_of_d (d_tup (l_cons (a_of_d (d_str)) (l_cons (a_of_d (d_int)) (l_cons (a_of_d (d_int)) (l_nil)))))) (l_nil))) rfl (ll_cons (ll_cons (ll_nil))))))) (a_of_d (d_tup (l_cons (a_of_d (d_str)) (l_cons (a_of_d (d_tup (l_cons (a_of_d (d_str)) (l_cons (a_of_d (d_int)) (l_cons (a_of_d (d_int)) (l_nil)))))) (l_nil))))))))))
end
omit [Tbs] in
theorem all_in {l : PySem.W.OpenLaw} {w : World} {K : PySem.W.Frag} {h : Heap} {mg : Str → Option Value} {fa p_s0 p_s1 p_s2 p_s3 p_s4 p_s5 p_s6 p_s7 p_s8 p_s9 p_s10 p_s11 p_s12 p_s13 p_s14 p_s15 : Addr} (X : K.In h) (G : h.Ns mainGlobals mg) (hfa : mg "law" = some (.ref fa))
    {od_s0 an_s0 : Option Addr} {sl_s0 : Array (Option Value)} {oc_s0 kV_s0 dc_s0 pm_s0 cd_s0 ct_s0 : Value} (a_s0 : PySem.W.nsIn K mainGlobals "matter_of" = some (some (.ref p_s0)))
    (l_s0 : K.lookup p_s0 = some ⟨oc_s0, od_s0, .func (PySem.W.fnOf "matter_of" "matter_of" (defArgs st_matter_of) (defBody st_matter_of) (defScope st_matter_of) .none kV_s0 dc_s0 pm_s0 an_s0 cd_s0 ct_s0), sl_s0⟩) (c_s0 : PySem.W.codeIn K cd_s0 "matter_of" = true) (k_s0 : PySem.W.keepIn K (.ref p_s0) = true)
    {od_s1 an_s1 : Option Addr} {sl_s1 : Array (Option Value)} {oc_s1 kV_s1 dc_s1 pm_s1 cd_s1 ct_s1 : Value} (a_s1 : PySem.W.nsIn K mainGlobals "path_of" = some (some (.ref p_s1)))
    (l_s1 : K.lookup p_s1 = some ⟨oc_s1, od_s1, .func (PySem.W.fnOf "path_of" "path_of" (defArgs st_path_of) (defBody st_path_of) (defScope st_path_of) .none kV_s1 dc_s1 pm_s1 an_s1 cd_s1 ct_s1), sl_s1⟩) (c_s1 : PySem.W.codeIn K cd_s1 "path_of" = true) (k_s1 : PySem.W.keepIn K (.ref p_s1) = true)
    {od_s2 an_s2 : Option Addr} {sl_s2 : Array (Option Value)} {oc_s2 kV_s2 dc_s2 pm_s2 cd_s2 ct_s2 : Value} (a_s2 : PySem.W.nsIn K mainGlobals "root_of" = some (some (.ref p_s2)))
    (l_s2 : K.lookup p_s2 = some ⟨oc_s2, od_s2, .func (PySem.W.fnOf "root_of" "root_of" (defArgs st_root_of) (defBody st_root_of) (defScope st_root_of) .none kV_s2 dc_s2 pm_s2 an_s2 cd_s2 ct_s2), sl_s2⟩) (c_s2 : PySem.W.codeIn K cd_s2 "root_of" = true) (k_s2 : PySem.W.keepIn K (.ref p_s2) = true)
    {od_s3 an_s3 : Option Addr} {sl_s3 : Array (Option Value)} {oc_s3 kV_s3 dc_s3 pm_s3 cd_s3 ct_s3 : Value} (a_s3 : PySem.W.nsIn K mainGlobals "path_voices" = some (some (.ref p_s3)))
    (l_s3 : K.lookup p_s3 = some ⟨oc_s3, od_s3, .func (PySem.W.fnOf "path_voices" "path_voices" (defArgs st_path_voices) (defBody st_path_voices) (defScope st_path_voices) .none kV_s3 dc_s3 pm_s3 an_s3 cd_s3 ct_s3), sl_s3⟩) (c_s3 : PySem.W.codeIn K cd_s3 "path_voices" = true) (k_s3 : PySem.W.keepIn K (.ref p_s3) = true)
    {od_s4 an_s4 : Option Addr} {sl_s4 : Array (Option Value)} {oc_s4 kV_s4 dc_s4 pm_s4 cd_s4 ct_s4 : Value} (a_s4 : PySem.W.nsIn K mainGlobals "_law_feed" = some (some (.ref p_s4)))
    (l_s4 : K.lookup p_s4 = some ⟨oc_s4, od_s4, .func (PySem.W.fnOf "_law_feed" "_law_feed" (defArgs st_feed) (defBody st_feed) (defScope st_feed) .none kV_s4 dc_s4 pm_s4 an_s4 cd_s4 ct_s4), sl_s4⟩) (c_s4 : PySem.W.codeIn K cd_s4 "_law_feed" = true) (k_s4 : PySem.W.keepIn K (.ref p_s4) = true)
    {od_s5 an_s5 : Option Addr} {sl_s5 : Array (Option Value)} {oc_s5 kV_s5 dc_s5 pm_s5 cd_s5 ct_s5 : Value} (a_s5 : PySem.W.nsIn K mainGlobals "_law_draw" = some (some (.ref p_s5)))
    (l_s5 : K.lookup p_s5 = some ⟨oc_s5, od_s5, .func (PySem.W.fnOf "_law_draw" "_law_draw" (defArgs st_draw) (defBody st_draw) (defScope st_draw) .none kV_s5 dc_s5 pm_s5 an_s5 cd_s5 ct_s5), sl_s5⟩) (c_s5 : PySem.W.codeIn K cd_s5 "_law_draw" = true) (k_s5 : PySem.W.keepIn K (.ref p_s5) = true)
    {od_s6 an_s6 : Option Addr} {sl_s6 : Array (Option Value)} {oc_s6 kV_s6 dc_s6 pm_s6 cd_s6 ct_s6 : Value} (a_s6 : PySem.W.nsIn K mainGlobals "_law_any" = some (some (.ref p_s6)))
    (l_s6 : K.lookup p_s6 = some ⟨oc_s6, od_s6, .func (PySem.W.fnOf "_law_any" "_law_any" (defArgs st_any) (defBody st_any) (defScope st_any) .none kV_s6 dc_s6 pm_s6 an_s6 cd_s6 ct_s6), sl_s6⟩) (c_s6 : PySem.W.codeIn K cd_s6 "_law_any" = true) (k_s6 : PySem.W.keepIn K (.ref p_s6) = true)
    {od_s7 an_s7 : Option Addr} {sl_s7 : Array (Option Value)} {oc_s7 kV_s7 dc_s7 pm_s7 cd_s7 ct_s7 : Value} (a_s7 : PySem.W.nsIn K mainGlobals "_law_charter" = some (some (.ref p_s7)))
    (l_s7 : K.lookup p_s7 = some ⟨oc_s7, od_s7, .func (PySem.W.fnOf "_law_charter" "_law_charter" (defArgs st_charter) (defBody st_charter) (defScope st_charter) .none kV_s7 dc_s7 pm_s7 an_s7 cd_s7 ct_s7), sl_s7⟩) (c_s7 : PySem.W.codeIn K cd_s7 "_law_charter" = true) (k_s7 : PySem.W.keepIn K (.ref p_s7) = true)
    {od_s8 an_s8 : Option Addr} {sl_s8 : Array (Option Value)} {oc_s8 kV_s8 dc_s8 pm_s8 cd_s8 ct_s8 : Value} (a_s8 : PySem.W.nsIn K mainGlobals "_law_folk" = some (some (.ref p_s8)))
    (l_s8 : K.lookup p_s8 = some ⟨oc_s8, od_s8, .func (PySem.W.fnOf "_law_folk" "_law_folk" (defArgs st_folk) (defBody st_folk) (defScope st_folk) .none kV_s8 dc_s8 pm_s8 an_s8 cd_s8 ct_s8), sl_s8⟩) (c_s8 : PySem.W.codeIn K cd_s8 "_law_folk" = true) (k_s8 : PySem.W.keepIn K (.ref p_s8) = true)
    {od_s9 an_s9 : Option Addr} {sl_s9 : Array (Option Value)} {oc_s9 kV_s9 dc_s9 pm_s9 cd_s9 ct_s9 : Value} (a_s9 : PySem.W.nsIn K mainGlobals "_law_cause" = some (some (.ref p_s9)))
    (l_s9 : K.lookup p_s9 = some ⟨oc_s9, od_s9, .func (PySem.W.fnOf "_law_cause" "_law_cause" (defArgs st_cause) (defBody st_cause) (defScope st_cause) .none kV_s9 dc_s9 pm_s9 an_s9 cd_s9 ct_s9), sl_s9⟩) (c_s9 : PySem.W.codeIn K cd_s9 "_law_cause" = true) (k_s9 : PySem.W.keepIn K (.ref p_s9) = true)
    {od_s10 an_s10 : Option Addr} {sl_s10 : Array (Option Value)} {oc_s10 kV_s10 dc_s10 pm_s10 cd_s10 ct_s10 : Value} (a_s10 : PySem.W.nsIn K mainGlobals "_law_way" = some (some (.ref p_s10)))
    (l_s10 : K.lookup p_s10 = some ⟨oc_s10, od_s10, .func (PySem.W.fnOf "_law_way" "_law_way" (defArgs st_way) (defBody st_way) (defScope st_way) .none kV_s10 dc_s10 pm_s10 an_s10 cd_s10 ct_s10), sl_s10⟩) (c_s10 : PySem.W.codeIn K cd_s10 "_law_way" = true) (k_s10 : PySem.W.keepIn K (.ref p_s10) = true)
    {od_s11 an_s11 : Option Addr} {sl_s11 : Array (Option Value)} {oc_s11 kV_s11 dc_s11 pm_s11 cd_s11 ct_s11 : Value} (a_s11 : PySem.W.nsIn K mainGlobals "_law_heads" = some (some (.ref p_s11)))
    (l_s11 : K.lookup p_s11 = some ⟨oc_s11, od_s11, .func (PySem.W.fnOf "_law_heads" "_law_heads" (defArgs st_heads) (defBody st_heads) (defScope st_heads) .none kV_s11 dc_s11 pm_s11 an_s11 cd_s11 ct_s11), sl_s11⟩) (c_s11 : PySem.W.codeIn K cd_s11 "_law_heads" = true) (k_s11 : PySem.W.keepIn K (.ref p_s11) = true)
    {od_s12 an_s12 : Option Addr} {sl_s12 : Array (Option Value)} {oc_s12 kV_s12 dc_s12 pm_s12 cd_s12 ct_s12 : Value} (a_s12 : PySem.W.nsIn K mainGlobals "_law_few" = some (some (.ref p_s12)))
    (l_s12 : K.lookup p_s12 = some ⟨oc_s12, od_s12, .func (PySem.W.fnOf "_law_few" "_law_few" (defArgs st_few) (defBody st_few) (defScope st_few) .none kV_s12 dc_s12 pm_s12 an_s12 cd_s12 ct_s12), sl_s12⟩) (c_s12 : PySem.W.codeIn K cd_s12 "_law_few" = true) (k_s12 : PySem.W.keepIn K (.ref p_s12) = true)
    {od_s13 an_s13 : Option Addr} {sl_s13 : Array (Option Value)} {oc_s13 kV_s13 dc_s13 pm_s13 cd_s13 ct_s13 : Value} (a_s13 : PySem.W.nsIn K mainGlobals "_law_said" = some (some (.ref p_s13)))
    (l_s13 : K.lookup p_s13 = some ⟨oc_s13, od_s13, .func (PySem.W.fnOf "_law_said" "_law_said" (defArgs st_said) (defBody st_said) (defScope st_said) .none kV_s13 dc_s13 pm_s13 an_s13 cd_s13 ct_s13), sl_s13⟩) (c_s13 : PySem.W.codeIn K cd_s13 "_law_said" = true) (k_s13 : PySem.W.keepIn K (.ref p_s13) = true)
    {od_s14 an_s14 : Option Addr} {sl_s14 : Array (Option Value)} {oc_s14 kV_s14 dc_s14 pm_s14 cd_s14 ct_s14 : Value} (a_s14 : PySem.W.nsIn K mainGlobals "_law_causes" = some (some (.ref p_s14)))
    (l_s14 : K.lookup p_s14 = some ⟨oc_s14, od_s14, .func (PySem.W.fnOf "_law_causes" "_law_causes" (defArgs st_causes) (defBody st_causes) (defScope st_causes) .none kV_s14 dc_s14 pm_s14 an_s14 cd_s14 ct_s14), sl_s14⟩) (c_s14 : PySem.W.codeIn K cd_s14 "_law_causes" = true) (k_s14 : PySem.W.keepIn K (.ref p_s14) = true)
    {od_s15 an_s15 : Option Addr} {sl_s15 : Array (Option Value)} {oc_s15 kV_s15 dc_s15 pm_s15  ct_s15 : Value} {q_s15 : Addr} (a_s15 : PySem.W.nsIn K mainGlobals "law" = some (some (.ref p_s15)))
    (l_s15 : K.lookup p_s15 = some ⟨oc_s15, od_s15, .func (PySem.W.fnOf "law" "law" (defArgs st_law) (defBody st_law) (defScope st_law) .none kV_s15 dc_s15 pm_s15 an_s15 (.ref q_s15) ct_s15), sl_s15⟩) (c_s15 : PySem.W.codeIn K (.ref q_s15) "law" = true) (k_s15 : PySem.W.keepIn K (.ref p_s15) = true)
    {C_NoName I_NoName : Addr} {u0_NoName u1_NoName : Option Addr} {u2_NoName : Array (Option Value)} {u3_NoName u4_NoName u5_NoName u6_NoName u7_NoName u8_NoName : Value}
    (xa_NoName : PySem.W.nsIn K mainGlobals "NoName" = some (some (.ref C_NoName))) (xb_NoName : PySem.W.excOver K C_NoName [.type "LookupError", .type "Exception", .type "BaseException", .type "object"] = true) (xc_NoName : PySem.W.excInitIn K C_NoName [.type "LookupError", .type "Exception", .type "BaseException", .type "object"] "LookupError.__new__" = true)
    (xd_NoName : PySem.W.findIn K (.ref C_NoName) "__setattr__" = some (some (.builtin "object.__setattr__"))) (xe_NoName : PySem.W.subIn K (.ref C_NoName) (.type "BaseException") = some true) (xf_NoName : PySem.W.typeIn K (.ref C_NoName) = some (.type "type")) (xg_NoName : PySem.W.keepIn K (.ref C_NoName) = true)
    (xh_NoName : PySem.W.findIn K (.ref C_NoName) "__getattribute__" = some (some (.builtin "BaseException.__getattribute__"))) (xi_NoName : PySem.W.findIn K (.ref C_NoName) "__getattr__" = some none) (xj_NoName : PySem.W.hasDictIn K C_NoName = true) (xk_NoName : PySem.W.subIn K (.ref C_NoName) (.ref C_NoName) = some true)
    (xl_NoName : PySem.W.findIn K (.ref C_NoName) "__init__" = some (some (.ref I_NoName))) (xm_NoName : PySem.W.typeIn K (.ref I_NoName) = some (.type "function")) (xn0_NoName : PySem.W.findIn K (.ref C_NoName) "name" = some none)
    (xo_NoName : K.lookup I_NoName = some ⟨u3_NoName, u0_NoName, .func (PySem.W.fnOf "__init__" "NoName.__init__" (defArgs st_i_NoName) (defBody st_i_NoName) (defScope st_i_NoName) .none u4_NoName u5_NoName u6_NoName u1_NoName u7_NoName u8_NoName), u2_NoName⟩) (xp_NoName : PySem.W.codeIn K u7_NoName "NoName.__init__" = true) (xq_NoName : PySem.W.keepIn K (.ref I_NoName) = true)
    {A_NoPaper : Addr} (ya_NoPaper : PySem.W.nsIn K mainGlobals "NoPaper" = some (some (.ref A_NoPaper)))
    {A_NoMatter : Addr} (ya_NoMatter : PySem.W.nsIn K mainGlobals "NoMatter" = some (some (.ref A_NoMatter)))
    {A_NoRight : Addr} (ya_NoRight : PySem.W.nsIn K mainGlobals "NoRight" = some (some (.ref A_NoRight)))
    {A_NoHand : Addr} (ya_NoHand : PySem.W.nsIn K mainGlobals "NoHand" = some (some (.ref A_NoHand)))
    {A_NoStep : Addr} (ya_NoStep : PySem.W.nsIn K mainGlobals "NoStep" = some (some (.ref A_NoStep)))
    {A_NoTown : Addr} (ya_NoTown : PySem.W.nsIn K mainGlobals "NoTown" = some (some (.ref A_NoTown)))
    {A_NoRow : Addr} (ya_NoRow : PySem.W.nsIn K mainGlobals "NoRow" = some (some (.ref A_NoRow)))
    {A_NoMore : Addr} (ya_NoMore : PySem.W.nsIn K mainGlobals "NoMore" = some (some (.ref A_NoMore)))
    {A_NoText : Addr} (ya_NoText : PySem.W.nsIn K mainGlobals "NoText" = some (some (.ref A_NoText)))
    {A_NoDeed : Addr} (ya_NoDeed : PySem.W.nsIn K mainGlobals "NoDeed" = some (some (.ref A_NoDeed)))
    {A_BenchError : Addr} (ya_BenchError : PySem.W.nsIn K mainGlobals "BenchError" = some (some (.ref A_BenchError)))
    {A_LackError : Addr} (ya_LackError : PySem.W.nsIn K mainGlobals "LackError" = some (some (.ref A_LackError)))
    (yi1_NoName : (PySem.W.clsIn K C_NoName).isSome = true) (yi2_NoName : PySem.W.findIn K (.ref C_NoName) "__class__" = some (some (.builtin "object.__class__"))) (yi3_NoName : PySem.W.specialIn K (.builtin "object.__class__") "__get__" = some (some (.builtin "getset_descriptor.__get__"))) (yi4_NoName : PySem.W.takesIn K (.builtin "object.__class__") = some true) (yi5_NoName : PySem.W.mroIn K C_NoName (.type "object") = some true)
    (yk_NoName_NoPaper : PySem.W.kitOne K (.ref C_NoName) (.ref A_NoPaper) = some false)
    (yk_NoName_NoMatter : PySem.W.kitOne K (.ref C_NoName) (.ref A_NoMatter) = some false)
    (yk_NoName_NoRight : PySem.W.kitOne K (.ref C_NoName) (.ref A_NoRight) = some false)
    (yk_NoName_NoHand : PySem.W.kitOne K (.ref C_NoName) (.ref A_NoHand) = some false)
    (yk_NoName_NoName : PySem.W.kitOne K (.ref C_NoName) (.ref C_NoName) = some true)
    (yk_NoName_ValueError : PySem.W.kitOne K (.ref C_NoName) (.type "ValueError") = some false)
    (yk_NoName_LookupError : PySem.W.kitOne K (.ref C_NoName) (.type "LookupError") = some true)
    (yk_NoName_BenchError : PySem.W.kitOne K (.ref C_NoName) (.ref A_BenchError) = some false)
    (yks_NoName_NoDeed_NoText_NoMore_NoRow_NoTown_NoStep : PySem.W.kitAny K (.ref C_NoName) [(.ref A_NoDeed), (.ref A_NoText), (.ref A_NoMore), (.ref A_NoRow), (.ref A_NoTown), (.ref A_NoStep)] = some false)
    (yhs_NoName_BenchError_LackError : PySem.W.exmAny K (.ref C_NoName) [(.ref A_BenchError), (.ref A_LackError)] = some true)
    (yt_s15 : h.get? (tabP K q_s15) = some { cls := .none, data := .fields #[] }) (yu_s15 : PySem.W.codeHdIn K q_s15 (tabP K q_s15) = true) (yv_s15 : (K.lookup (tabP K q_s15)).isNone = true)
    (z_LookupError : PySem.W.nsIn K mainGlobals "LookupError" = some none)
    (z_ValueError : PySem.W.nsIn K mainGlobals "ValueError" = some none)
    (z_isinstance : PySem.W.nsIn K mainGlobals "isinstance" = some none)
    (z_len : PySem.W.nsIn K mainGlobals "len" = some none)
    (z_list : PySem.W.nsIn K mainGlobals "list" = some none)
    (z_max : PySem.W.nsIn K mainGlobals "max" = some none)
    (z_min : PySem.W.nsIn K mainGlobals "min" = some none)
    (z_range : PySem.W.nsIn K mainGlobals "range" = some none)
    (z_repr : PySem.W.nsIn K mainGlobals "repr" = some none)
    (z_set : PySem.W.nsIn K mainGlobals "set" = some none)
    (z_sorted : PySem.W.nsIn K mainGlobals "sorted" = some none)
    (z_tuple : PySem.W.nsIn K mainGlobals "tuple" = some none)
    : ∃ (T : List CTN) (fd : FuncData), (∀ p ∈ T, h.get? p.2.1 = some { cls := .none, data := .fields #[] }) ∧ (∀ p ∈ T, K.lookup p.2.1 = none) ∧ (∀ p ∈ T, PySem.W.CodeHd h p.1 p.2.1) ∧ (∀ (s : Shared) (u : Value), BindsTo s fd ⟨[u], []⟩ [("script", u)]) ∧ ∀ base : Heap, (∀ p ∈ T, LamX.TabB base mg p.1 p.2.1) → FnG l.prog w K mg base (L2.CX l.prog w) 9 fa fd ["script"] (@spI (tbsOf T) K w mg (XRin ["NoName"] ⟨K, w, mg, none, none⟩) 1 (fnM 12 [false] Lw.m_law_k20)) := by
  cases hfa.symm.trans (PySem.W.mg_of X G a_s15)
  have G_s0 := fun_mk (st := st_matter_of) l_s0 c_s0 k_s0
  have B_s0 := G_s0.binds (ps := ["matters", "name"]) fun _ _ _ _ _ _ us hl => match us, hl with | [_, _], _ => rfl
  have G_s1 := fun_mk (st := st_path_of) l_s1 c_s1 k_s1
  have B_s1 := G_s1.binds (ps := ["matters", "name"]) fun _ _ _ _ _ _ us hl => match us, hl with | [_, _], _ => rfl
  have G_s2 := fun_mk (st := st_root_of) l_s2 c_s2 k_s2
  have B_s2 := G_s2.binds (ps := ["matters", "name"]) fun _ _ _ _ _ _ us hl => match us, hl with | [_, _], _ => rfl
  have G_s3 := fun_mk (st := st_path_voices) l_s3 c_s3 k_s3
  have B_s3 := G_s3.binds (ps := ["matters", "name"]) fun _ _ _ _ _ _ us hl => match us, hl with | [_, _], _ => rfl
  have G_s4 := fun_mk (st := st_feed) l_s4 c_s4 k_s4
  have B_s4 := G_s4.binds (ps := ["script"]) fun _ _ _ _ _ _ us hl => match us, hl with | [_], _ => rfl
  have G_s5 := fun_mk (st := st_draw) l_s5 c_s5 k_s5
  have B_s5 := G_s5.binds (ps := ["feed", "many"]) fun _ _ _ _ _ _ us hl => match us, hl with | [_, _], _ => rfl
  have G_s6 := fun_mk (st := st_any) l_s6 c_s6 k_s6
  have B_s6 := G_s6.binds (ps := ["feed", "some"]) fun _ _ _ _ _ _ us hl => match us, hl with | [_, _], _ => rfl
  have G_s7 := fun_mk (st := st_charter) l_s7 c_s7 k_s7
  have B_s7 := G_s7.binds (ps := ["feed", "most"]) fun _ _ _ _ _ _ us hl => match us, hl with | [_, _], _ => rfl
  have G_s8 := fun_mk (st := st_folk) l_s8 c_s8 k_s8
  have B_s8 := G_s8.binds (ps := ["feed", "charter", "most"]) fun _ _ _ _ _ _ us hl => match us, hl with | [_, _, _], _ => rfl
  have G_s9 := fun_mk (st := st_cause) l_s9 c_s9 k_s9
  have B_s9 := G_s9.binds (ps := ["causes", "tag"]) fun _ _ _ _ _ _ us hl => match us, hl with | [_, _], _ => rfl
  have G_s10 := fun_mk (st := st_way) l_s10 c_s10 k_s10
  have B_s10 := G_s10.binds (ps := ["causes", "tag"]) fun _ _ _ _ _ _ us hl => match us, hl with | [_, _], _ => rfl
  have G_s11 := fun_mk (st := st_heads) l_s11 c_s11 k_s11
  have B_s11 := G_s11.binds (ps := ["causes", "tag"]) fun _ _ _ _ _ _ us hl => match us, hl with | [_, _], _ => rfl
  have G_s12 := fun_mk (st := st_few) l_s12 c_s12 k_s12
  have B_s12 := G_s12.binds (ps := ["feed", "folk", "most"]) fun _ _ _ _ _ _ us hl => match us, hl with | [_, _, _], _ => rfl
  have G_s13 := fun_mk (st := st_said) l_s13 c_s13 k_s13
  have B_s13 := G_s13.binds (ps := ["ask"]) fun _ _ _ _ _ _ us hl => match us, hl with | [_], _ => rfl
  have G_s14 := fun_mk (st := st_causes) l_s14 c_s14 k_s14
  have B_s14 := G_s14.binds (ps := ["feed", "folk"]) fun _ _ _ _ _ _ us hl => match us, hl with | [_, _], _ => rfl
  have G_s15 := fun_mk (st := st_law) l_s15 c_s15 k_s15
  have Gi_NoName := fun_mk (st := st_i_NoName) xo_NoName xp_NoName xq_NoName
  have Bi_NoName := Gi_NoName.binds (ps := ["self", "name"]) fun _ _ _ _ _ _ us hl => match us, hl with | [_, _], _ => rfl
  have E_NoName := exck_of (fs := ["name"]) PySem.F.excBase_LookupError PySem.F.store_LookupError xb_NoName xc_NoName xd_NoName xe_NoName xf_NoName xg_NoName xh_NoName xi_NoName xj_NoName xk_NoName xl_NoName xm_NoName Bi_NoName (List.forall_mem_cons.mpr ⟨xn0_NoName, (fun _ h => nomatch h)⟩)
  have P_p_root_of_0_name_matters : BindsP K (PySem.W.fnOf "root_of" "root_of" (defArgs st_root_of) (defBody st_root_of) (defScope st_root_of) .none kV_s2 dc_s2 pm_s2 an_s2 cd_s2 ct_s2) ["matters", "name"] ["name", "matters"] 0 2 [.inl 1, .inl 0] := fun s us ws _ h1 h2 => match us, ws, h1, h2 with | [], [_, _], _, _ => .of_eq rfl
  have Q_p_root_of_0_name_matters : pkOk K (0 + 2) [.inl 1, .inl 0] := ⟨(by decide), ⟨(by decide), trivial⟩⟩
  have P_p_path_of_0_name_matters : BindsP K (PySem.W.fnOf "path_of" "path_of" (defArgs st_path_of) (defBody st_path_of) (defScope st_path_of) .none kV_s1 dc_s1 pm_s1 an_s1 cd_s1 ct_s1) ["matters", "name"] ["name", "matters"] 0 2 [.inl 1, .inl 0] := fun s us ws _ h1 h2 => match us, ws, h1, h2 with | [], [_, _], _, _ => .of_eq rfl
  have Q_p_path_of_0_name_matters : pkOk K (0 + 2) [.inl 1, .inl 0] := ⟨(by decide), ⟨(by decide), trivial⟩⟩
  have P_p_path_voices_0_name_matters : BindsP K (PySem.W.fnOf "path_voices" "path_voices" (defArgs st_path_voices) (defBody st_path_voices) (defScope st_path_voices) .none kV_s3 dc_s3 pm_s3 an_s3 cd_s3 ct_s3) ["matters", "name"] ["name", "matters"] 0 2 [.inl 1, .inl 0] := fun s us ws _ h1 h2 => match us, ws, h1, h2 with | [], [_, _], _, _ => .of_eq rfl
  have Q_p_path_voices_0_name_matters : pkOk K (0 + 2) [.inl 1, .inl 0] := ⟨(by decide), ⟨(by decide), trivial⟩⟩
  have Z : Zs K mg p_s0 _ p_s1 _ p_s2 _ p_s3 _ p_s4 _ p_s5 _ p_s6 _ p_s7 _ p_s8 _ p_s9 _ p_s10 _ p_s11 _ p_s12 _ p_s13 _ p_s14 _ C_NoName I_NoName _ A_NoPaper A_NoMatter A_NoRight A_NoHand A_NoStep A_NoTown A_NoRow A_NoMore A_NoText A_NoDeed A_BenchError A_LackError := ⟨PySem.W.mg_of X G xa_NoName, E_NoName, PySem.W.mg_of X G ya_NoPaper, PySem.W.mg_of X G ya_NoMatter, PySem.W.mg_of X G ya_NoRight, PySem.W.mg_of X G ya_NoHand, PySem.W.mg_of X G ya_NoStep, PySem.W.mg_of X G ya_NoTown, PySem.W.mg_of X G ya_NoRow, PySem.W.mg_of X G ya_NoMore, PySem.W.mg_of X G ya_NoText, PySem.W.mg_of X G ya_NoDeed, PySem.W.mg_of X G ya_BenchError, PySem.W.mg_of X G ya_LackError, isC_of E_NoName.xf yi1_NoName yi2_NoName yi3_NoName yi4_NoName yi5_NoName, yk_NoName_NoPaper, yk_NoName_NoMatter, yk_NoName_NoRight, yk_NoName_NoHand, yk_NoName_NoName, yk_NoName_ValueError, yk_NoName_LookupError, yk_NoName_BenchError, yks_NoName_NoDeed_NoText_NoMore_NoRow_NoTown_NoStep, yhs_NoName_BenchError_LackError, PySem.W.mg_none_of X G z_LookupError, PySem.W.mg_none_of X G z_ValueError, PySem.W.mg_none_of X G z_isinstance, PySem.W.mg_none_of X G z_len, PySem.W.mg_none_of X G z_list, PySem.W.mg_none_of X G z_max, PySem.W.mg_none_of X G z_min, PySem.W.mg_none_of X G z_range, PySem.W.mg_none_of X G z_repr, PySem.W.mg_none_of X G z_set, PySem.W.mg_none_of X G z_sorted, PySem.W.mg_none_of X G z_tuple, PySem.W.mg_of X G a_s0, k_s0, B_s0, PySem.W.mg_of X G a_s1, k_s1, B_s1, PySem.W.mg_of X G a_s2, k_s2, B_s2, PySem.W.mg_of X G a_s3, k_s3, B_s3, PySem.W.mg_of X G a_s4, k_s4, B_s4, PySem.W.mg_of X G a_s5, k_s5, B_s5, PySem.W.mg_of X G a_s6, k_s6, B_s6, PySem.W.mg_of X G a_s7, k_s7, B_s7, PySem.W.mg_of X G a_s8, k_s8, B_s8, PySem.W.mg_of X G a_s9, k_s9, B_s9, PySem.W.mg_of X G a_s10, k_s10, B_s10, PySem.W.mg_of X G a_s11, k_s11, B_s11, PySem.W.mg_of X G a_s12, k_s12, B_s12, PySem.W.mg_of X G a_s13, k_s13, B_s13, PySem.W.mg_of X G a_s14, k_s14, B_s14, P_p_root_of_0_name_matters, Q_p_root_of_0_name_matters, P_p_path_of_0_name_matters, Q_p_path_of_0_name_matters, P_p_path_voices_0_name_matters, Q_p_path_voices_0_name_matters⟩
  have t1 := yt_s15; have t2 := Option.isNone_iff_eq_none.mp yv_s15; have t3 := PySem.W.codeHd_of_K X yu_s15; letI : Tbs := tbsOf [(q_s15, tabP K q_s15, ("law" : Str) ++ ".<locals>." ++ "<lambda>")]; refine ⟨[(q_s15, tabP K q_s15, ("law" : Str) ++ ".<locals>." ++ "<lambda>")], PySem.W.fnOf "law" "law" (defArgs st_law) (defBody st_law) (defScope st_law) .none kV_s15 dc_s15 pm_s15 an_s15 (.ref q_s15) ct_s15, (fun p hp => by cases List.mem_singleton.mp hp; exact t1), (fun p hp => by cases List.mem_singleton.mp hp; exact t2), (fun p hp => by cases List.mem_singleton.mp hp; exact t3), fun s u => .of_eq rfl, fun base hb => ?_⟩
  have Fi_NoName := ini1 (P := l.prog) (w := w) (mg := mg) (base := base) (k := 0) Gi_NoName sc_i_NoName E_NoName.oex xn0_NoName
  have K_s0 := ok_matter_of (P := l.prog) (w := w) (base := base) Z G_s0 Fi_NoName
  have K_s1 := ok_path_of (P := l.prog) (w := w) (base := base) Z G_s1 K_s0
  have K_s2 := ok_root_of (P := l.prog) (w := w) (base := base) Z G_s2 K_s1
  have K_s3 := ok_path_voices (P := l.prog) (w := w) (base := base) Z G_s3 K_s1 K_s0
  have K_s4 := ok_feed (P := l.prog) (w := w) (base := base) Z G_s4 
  have K_s5 := ok_draw (P := l.prog) (w := w) (base := base) Z G_s5 
  have K_s6 := ok_any (P := l.prog) (w := w) (base := base) Z G_s6 K_s5
  have K_s7 := ok_charter (P := l.prog) (w := w) (base := base) Z G_s7 K_s5 K_s6
  have K_s8 := ok_folk (P := l.prog) (w := w) (base := base) Z G_s8 K_s5
  have K_s9 := ok_cause (P := l.prog) (w := w) (base := base) Z G_s9 
  have K_s10 := ok_way (P := l.prog) (w := w) (base := base) Z G_s10 K_s9
  have K_s11 := ok_heads (P := l.prog) (w := w) (base := base) Z G_s11 K_s10 K_s9
  have K_s12 := ok_few (P := l.prog) (w := w) (base := base) Z G_s12 K_s5
  have K_s14 := ok_causes (P := l.prog) (w := w) (base := base) Z G_s14 K_s5 K_s6 K_s10 K_s12
  exact ok_law Z G_s15 G_s13 rfl (hb _ List.mem_cons_self) (List.mem_singleton.mpr rfl) (fun p hp _ => by cases List.mem_singleton.mp hp; rfl) K_s4 K_s7 K_s14 K_s8 K_s11 K_s10 K_s3 K_s2 K_s1
end Dv
namespace Lw
open PySem L2 PySem.W PySem.SeqAt Eg
end Lw
namespace Lw
open PySem L2 PySem.W PySem.SeqAt Eg
end Lw
namespace Lw
open PySem L2 PySem.W PySem.SeqAt Eg
end Lw
namespace Lw
open PySem L2 PySem.W PySem.SeqAt Eg
end Lw
namespace Lw
open PySem L2 PySem.W PySem.SeqAt Eg
end Lw
namespace Lw
open PySem L2 PySem.W PySem.SeqAt Eg
end Lw
namespace Eg
open PySem L2 PySem.W PySem.SeqAt
end Eg
namespace Lw
open PySem L2 PySem.W PySem.SeqAt Eg
def isCount : PyData → Bool
  | .int i => decide (0 ≤ i)
  | _ => false
def wordB (x : Str) : Bool := (decide (1 ≤ (x.length : Int)) && decide ((x.length : Int) ≤ 8)) && x.cps.toList.all fun c => decide (97 ≤ c) && decide (c ≤ 122)
end Lw
namespace Eg
open PySem L2 PySem.W PySem.SeqAt
section
variable (a b c d e : PyData) (i : Nat) (ρ : Rho)
theorem ix4_0 : gIx (.list [a, b, c, d]) (.int 0) = some a := rfl
theorem ix4_1 : gIx (.list [a, b, c, d]) (.int 1) = some b := rfl
theorem ix4_2 : gIx (.list [a, b, c, d]) (.int 2) = some c := rfl
theorem ix4_3 : gIx (.list [a, b, c, d]) (.int 3) = some d := rfl
theorem put4_1 : putLO (some (some (.ol [a, b, c, d]))) i e (.int 1) ρ = .ok .nx (ρ.set i (some (.ol [a, e, c, d]))) := rfl
theorem put4_2 : putLO (some (some (.ol [a, b, c, d]))) i e (.int 2) ρ = .ok .nx (ρ.set i (some (.ol [a, b, e, d]))) := rfl
theorem put4_3 : putLO (some (some (.ol [a, b, c, d]))) i e (.int 3) ρ = .ok .nx (ρ.set i (some (.ol [a, b, c, e]))) := rfl
end
end Eg
namespace Lw
open PySem L2 PySem.W PySem.SeqAt Eg
def FeedAt (xs : List PyData) (n : Nat) : Prop := ∃ c s r k, xs = [.list c, .int s, .int r, .int k] ∧ (∀ d ∈ c, ∃ i, d = PyData.int i) ∧ 0 ≤ s ∧ 0 ≤ k ∧ k ≤ n
theorem FeedAt.mono {xs : List PyData} {n m : Nat} (h : FeedAt xs n) (l : n ≤ m) : FeedAt xs m := by
  obtain ⟨c, s, r, k, e, h1, h2, h3, h4⟩ := h
  exact ⟨c, s, r, k, e, h1, h2, h3, by omega⟩
end Lw
set_option exponentiation.threshold 10000
namespace Lw
open PySem L2 PySem.W PySem.SeqAt Eg
end Lw
set_option exponentiation.threshold 10000
namespace Lw
open PySem L2 PySem.W PySem.SeqAt Eg
end Lw
namespace Lw
open PySem L2 PySem.W PySem.SeqAt Eg
abbrev Told := Str × Int × Int
def td (t : Told) : PyData := .tuple [.str t.1, .int t.2.1, .int t.2.2]
def newsD (l : List Told) : PyData := .tuple (l.map td)
def Good (ts : List Str) (l : List Told) : Prop := l.map (·.1) = ts ∧ ∀ t ∈ l, 0 ≤ t.2.1 ∧ t.2.1 ≤ 10000000000 ∧ 0 ≤ t.2.2 ∧ t.2.2 ≤ 100000
theorem Good.len {ts : List Str} {l : List Told} (h : Good ts l) : l.length = ts.length := by rw [← h.1, List.length_map]
theorem td_fd {t : Told} (hs : StrF t.1) (h : 0 ≤ t.2.1 ∧ t.2.1 ≤ 10000000000 ∧ 0 ≤ t.2.2 ∧ t.2.2 ≤ 100000) : Fd 69 1 (td t) :=
  Fd.tuple (n := 20) (k := 0) (m := 3) (all3 (Fd.str hs) ((Fd.int (n := 15) (by omega)).mono (by decide) (by decide)) ((Fd.int (n := 15) (by omega)).mono (by decide) (by decide))) (Nat.le_refl 3)
theorem five_fine : ∀ x ∈ five, StrF x := by decide +kernel
theorem Good.fd {ts : List Str} {l : List Told} (h : Good ts l) (hs : List.Sublist ts five) : Fd 358 2 (newsD l) :=
  Fd.tuple (n := 69) (k := 1) (m := 5) (allM fun t ht => td_fd (five_fine _ (hs.mem (by rw [← h.1]; exact List.mem_map_of_mem ht))) (h.2 t ht)) (by rw [List.length_map, h.len]; exact hs.length_le)
end Lw
namespace Lw
open PySem L2 PySem.W PySem.SeqAt Eg
def isWord : PyData → Bool
  | .str x => wordB x
  | _ => false
end Lw
namespace Eg
open PySem L2 PySem.W PySem.SeqAt
theorem ne_list_nil {ds : List PyData} (h : small (.list ds) = true) : gNe (.list ds) (.list []) = some (.bool (!ds.isEmpty)) := by
  unfold gNe
  rw [if_pos h]
  cases ds <;> simp [PyData.eqv, PyData.eqvAll]
end Eg
namespace Lw
open PySem L2 PySem.W PySem.SeqAt Eg
def isHand : PyData → Bool
  | .tuple [a, b] => isWord a && isWord b
  | _ => false
def isPair : PyData → Bool
  | .tuple [a, b] => isHand a && (isHand b && dataLt a b)
  | _ => false
def isTold : PyData → Bool
  | .tuple [a, b, c] => isWord a && (isCount b && isCount c)
  | _ => false
section
variable {q n k : Nat} {d : PyData}
end
end Lw
set_option exponentiation.threshold 10000
namespace Eg
open PySem L2 PySem.W PySem.SeqAt
theorem sIx_none' (n d : Nat) : HT.sIx n d none = d := rfl
theorem sIx_some {n d : Nat} {v : Int} (h : 0 ≤ v) : HT.sIx n d (some v) = min v.toNat n := by
  unfold HT.sIx
  simp only
  rw [if_neg (by omega)]
theorem cut_to {ds : List PyData} {v : Int} (h : 0 ≤ v) : cutD ds none (some v) = ds.take v.toNat := by
  unfold cutD
  rw [sIx_none', sIx_some h, List.drop_zero, Nat.sub_zero]
  by_cases q : v.toNat ≤ ds.length
  · rw [Nat.min_eq_left q]
  · rw [Nat.min_eq_right (by omega), List.take_of_length_le (Nat.le_refl _), List.take_of_length_le (by omega)]
theorem cut_fr {ds : List PyData} {v : Int} (h : 0 ≤ v) : cutD ds (some v) none = ds.drop v.toNat := by
  unfold cutD
  rw [sIx_none', sIx_some h]
  by_cases q : v.toNat ≤ ds.length
  · rw [Nat.min_eq_left q]
    exact List.take_of_length_le (by rw [List.length_drop]; exact Nat.le_refl _)
  · rw [Nat.min_eq_right (by omega), Nat.sub_self, List.take_zero, List.drop_eq_nil_of_le (by omega)]
theorem split_at {ds : List PyData} {v : Int} (h0 : 0 ≤ v) (h1 : v < (ds.length : Int)) : ∃ A e B, ds = A ++ e :: B ∧ cutD ds none (some v) = A ∧ cutD ds (some (v + 1)) none = B ∧ cutD ds (some v) (some (v + 1)) = [e] ∧ cutD ds (some v) none = e :: B ∧ L2.atI ds v = some e := by
  have hv : v.toNat < ds.length := by omega
  have hd : ds.drop v.toNat = ds[v.toNat] :: ds.drop (v.toNat + 1) := List.drop_eq_getElem_cons hv
  refine ⟨ds.take v.toNat, ds[v.toNat], ds.drop (v.toNat + 1), ?_, cut_to h0, ?_, ?_, ?_, ?_⟩
  · rw [← hd, List.take_append_drop]
  · have e1 : (v + 1).toNat = v.toNat + 1 := by omega
    rw [cut_fr (by omega), e1]
  · unfold cutD
    rw [sIx_some h0, sIx_some (by omega), Nat.min_eq_left (by omega), Nat.min_eq_left (by omega), hd]
    have : (v + 1).toNat - v.toNat = 1 := by omega
    rw [this]
    rfl
  · rw [cut_fr h0, hd]
  · unfold L2.atI ixN
    simp [h0, h1]
theorem gIx_mem {l : List PyData} {v : Int} (h0 : 0 ≤ v) (h1 : v < (l.length : Int)) : ∃ d ∈ l, gIx (.list l) (.int v) = some d := by
  obtain ⟨A, e, B, rfl, _, _, _, _, h⟩ := split_at h0 h1
  exact ⟨e, by simp, h⟩
theorem gSl_t (ds : List PyData) (lo hi : Option Int) : gSl (.tuple ds) lo hi = some (.sh (.tuple (cutD ds lo hi))) := rfl
theorem aAdd_tt {xs ys : List PyData} (h : xs.length + ys.length ≤ sizeLine) : aAdd (.tuple xs) (.tuple ys) = some (.sh (.tuple (xs ++ ys))) := by
  simp only [aAdd]
  rw [if_pos h]
theorem aAdd_ll {xs ys : List PyData} (h : xs.length + ys.length ≤ sizeLine) : aAdd (.list xs) (.list ys) = some (.ol (xs ++ ys)) := by
  simp only [aAdd]
  rw [if_pos h]
theorem gList_t (ds : List PyData) : gList [.tuple ds] = some (.ol ds) := rfl
end Eg
namespace Lw
open PySem L2 PySem.W PySem.SeqAt Eg
end Lw
namespace Lw
open PySem L2 PySem.W PySem.SeqAt Eg
theorem key_inj {a b : PyData} (al : alike a b = true) (ha : keyB a = true) (hb : keyB b = true) (e : keyToks a = keyToks b) : a = b := (toks_inj a b [] [] al ha hb (by rw [e])).1
theorem eqv_key {a b : PyData} (al : alike a b = true) (ha : keyB a = true) (hb : keyB b = true) : PyData.eqv a b = true ↔ a = b := by
  constructor
  · intro h
    exact key_inj al ha hb ((toks_eqv a b al).1 h)
  · rintro rfl
    exact eqv_refl_alike a al
theorem key_hd (p : Hand) : keyT (hd p) = true := by simp [hd, keyT, keyBs, keyB, PyData.depth, PyData.depthAll]
end Lw
namespace Lw
open PySem L2 PySem.W PySem.SeqAt Eg
section
variable {q n k : Nat} {d : PyData}
end
end Lw
namespace Lw
open PySem L2 PySem.W PySem.SeqAt Eg
section
variable {q n k : Nat} {d : PyData}
theorem gKeys_hd {l : List Hand} (h : l.length < 64) : gKeys [.tuple (l.map hd)] = some (l.map hd) := by
  have h : (l.map hd).all keyT = true ∧ (l.map hd).length < 64 := ⟨List.all_eq_true.mpr fun d hd' => by
    obtain ⟨p, _, rfl⟩ := List.mem_map.mp hd'
    exact key_hd p, by rw [List.length_map]; exact h⟩
  show (if _ then _ else _) = _
  rw [if_pos h]
theorem gOnce_hd {l : List Hand} (h : l.length < 64) : gOnce (l.map hd) = some (.ol (sortD (once (l.map hd)))) := if_pos (sortOk_hd l (by omega))
end
end Lw
namespace Eg
open PySem L2 PySem.W PySem.SeqAt
section
variable {α β : Type} {src src1 : M (List PyData)} {t t1 : Tgt} {mt mt1 : M Bool} {me : M PyData} {vs vs1 : List Nat} {ρ ρ0 : Rho}
end
end Eg
namespace Lw
open PySem L2 PySem.W PySem.SeqAt Eg
section
variable {l : List Hand} {m : List (Hand × Hand)}
def kvs (m : List (Hand × Hand)) : List (PyData × PyData) := kFill [] (m.map fun y => (pd y, PyData.bool true))
end
end Lw
namespace Lw
open PySem L2 PySem.W PySem.SeqAt Eg
theorem ix_last {ds : List PyData} {d : PyData} (h : ds.getLast? = some d) : gIx (.tuple ds) (.int (-1)) = some d := by
  show L2.atI ds (-1) = _
  unfold L2.atI ixN
  have hl : 0 < ds.length := by
    cases ds with
    | nil => cases h
    | cons _ _ => simp
  rw [if_neg (by decide), if_pos (by omega)]
  rw [List.getLast?_eq_getElem?] at h
  show ds[((-1 : Int) + (ds.length : Int)).toNat]? = _
  rw [show ((-1 : Int) + (ds.length : Int)).toNat = ds.length - 1 by omega]
  exact h
section
variable {l : List Hand} {m : List (Hand × Hand)} {c : Nat} {o0 o3 : Option OD}
end
end Lw
namespace Lw
open PySem L2 PySem.W PySem.SeqAt Eg
end Lw
namespace Lw
open PySem L2 PySem.W PySem.SeqAt Eg
end Lw
namespace Eg
open PySem L2 PySem.W PySem.SeqAt
end Eg
namespace Eg
open PySem L2 PySem.W PySem.SeqAt
section
variable {α : Type} {t : Tgt} {mt : M Bool} {me : M PyData} {vs : List Nat}
end
end Eg
namespace Lw
open PySem L2 PySem.W PySem.SeqAt Eg
def hands7 : List Hand := [("a", "a"), ("a", "ab"), ("a", "bob"), ("ab", "a"), ("elm", "ann"), ("elm", "bob"), ("elm", "z")]
def hands5 : List Hand := [("oak", "ann"), ("oak", "zzzzzzzz"), ("yew", "c"), ("zzzzzzzz", "a"), ("zzzzzzzz", "b")]
structure CrewF (l : List Hand) : Prop where
  len : l.length ≤ 9
  rise : l.Pairwise fun a b => lt a b = true
  mem : ∀ h ∈ l, h ∈ hands7 ++ hands5
end Lw
namespace Lw
open PySem L2 PySem.W PySem.SeqAt Eg
section
variable {l : List Hand}
structure CallF (l : List Hand) (m : List (Hand × Hand)) (c : Nat) : Prop where
  crew : CrewF l
  free : List.Sublist m (rise l)
  least : 2 ≤ c
  most : c ≤ 5
end
end Lw
namespace Lw
open PySem L2 PySem.W PySem.SeqAt Eg
section
variable {q n k : Nat} {d : PyData}
end
end Lw
namespace Lw
open PySem L2 PySem.W PySem.SeqAt Eg
section
variable {q n k : Nat} {d : PyData}
end
end Lw
namespace Lw
open PySem L2 PySem.W PySem.SeqAt Eg
structure Brn where
  p : Hand × Hand
  o : Str
  a : Int
  b : Int
  d : Int
deriving DecidableEq
def brD (x : Brn) : PyData := .tuple [pd x.p, .tuple [.str x.o, .int x.a, .int x.b], .int x.d]
end Lw
namespace Lw
open PySem L2 PySem.W PySem.SeqAt Eg
def srtI (l : List Int) : List Int := l.mergeSort fun a b => dle (.int a) (.int b)
def Far (w : Int) (x y : Brn) : Prop := x.p = y.p → w ≤ (((x.d - y.d).natAbs : Nat) : Int)
theorem Far.symm {w : Int} {x y : Brn} (h : Far w x y) : Far w y x := fun e => by have := h e.symm; omega
def daysOf (l : List Brn) (p : Hand × Hand) : List Int := srtI ((l.filter fun x => decide (x.p = p)).map (·.d))
end Lw
namespace Lw
open PySem L2 PySem.W PySem.SeqAt Eg
theorem gTup_l (ds : List PyData) : gTuple [.list ds] = some (.sh (.tuple ds)) := rfl
section
variable {t B : PyData} {w : Int} {D : OD} {m : List Brn} {a0 a1 a2 a3 a4 a5 a6 a7 a8 a9 a10 a11 : Option OD}
end
end Lw
namespace Lw
open PySem L2 PySem.W PySem.SeqAt Eg
section
variable {w : Int} {m : List Brn} {a0 a1 a3 a5 a6 a7 a8 a9 a10 a11 : Option OD}
end
def rowsD (l : List Brn) (sp : List (Hand × Hand)) : List PyData := sp.map fun p => .tuple [pd p, .tuple ((daysOf l p).map .int)]
end Lw
namespace Lw
open PySem L2 PySem.W PySem.SeqAt Eg
def isBurn : PyData → Bool
  | .tuple [a, b, c] => isPair a && (isTold b && isCount c)
  | _ => false
section
variable {q n k : Nat} {d : PyData}
end
end Lw
namespace Lw
open PySem L2 PySem.W PySem.SeqAt Eg
def okBr (l : List Brn) : Prop := ∀ x ∈ l, isBurn (brD x) = true
section
variable {q n k : Nat} {l : List Brn} {a b t : PyData} {w : Int} {a0 a2 a3 a5 : Option OD}
end
end Lw
namespace Lw
open PySem L2 PySem.W PySem.SeqAt Eg
section
variable {q n k : Nat} {l : List Brn} {ks : List (Hand × Hand)} {a b t : PyData} {w : Int} {R : List PyData} {a1 a7 a8 a9 : Option OD}
end
end Lw
namespace Lw
open PySem L2 PySem.W PySem.SeqAt Eg
section
variable {q n k : Nat} {l : List Brn} {ks : List (Hand × Hand)} {a b t : PyData} {w : Int} {R : List PyData} {a1 a7 a8 a9 : Option OD}
end
end Lw
namespace Lw
open PySem L2 PySem.W PySem.SeqAt Eg
section
variable {q n k : Nat} {l : List Brn} {ks : List (Hand × Hand)} {t : PyData} {w : Int} {R : List PyData}
variable {tx ty tz : PyData} {a1 a5 a6 a7 a8 a9 : Option OD}
end
end Lw
namespace Lw
open PySem L2 PySem.W PySem.SeqAt Eg
section
variable {q n k : Nat} {l : List Brn} {t : PyData} {w : Int}
end
end Lw
namespace Lw
open PySem L2 PySem.W PySem.SeqAt Eg
theorem go_ex {α β : Type} {x : Xc} {ρ : Rho} (f : α → M β) : (Res.ex x ρ : Res α).go f = .ex x ρ := rfl
structure GoodB (l : List Brn) : Prop where
  nd : l.Nodup
  len : l.length ≤ 1000
  ok : okBr l
  days : ∀ x ∈ l, 0 ≤ x.d
section
variable {q n k : Nat} {l : List Brn} {d t : PyData} {w : Int}
end
end Lw
namespace Eg
open PySem L2 PySem.W PySem.SeqAt PySem.Spec PyProof.Rows PySem.NumText PySem.W.KIN PySem.Builtin.Str
mutual
def smp : PyData → Bool
  | .int _ => true
  | .str s => s.cps.toList.all fun c => decide (97 ≤ c) && decide (c ≤ 122)
  | .tuple ds => smps ds
  | .none => false
  | .bool _ => false
  | .list _ => false
  | .dict _ => false
def smps : List PyData → Bool
  | [] => true
  | d :: ds => smp d && smps ds
end
end Eg
namespace Lw
open PySem L2 PySem.W PySem.SeqAt Eg
section
variable {q n k : Nat} {l : List Brn} {a b t : PyData} {w : Int} {a0 a2 a3 a5 : Option OD}
end
inductive Jd
  | told (s : String)
  | no (s : String) (at_ : PyData)
section
variable {q n k : Nat} {l : List Brn} {a b t : PyData} {w : Int}
end
end Lw
namespace Lw
open PySem L2 PySem.W PySem.SeqAt Eg
section
variable {q n k : Nat} {l : List Brn} {ks : List (Hand × Hand)} {a b t : PyData} {w : Int} {R : List PyData} {a1 a7 a8 a9 : Option OD}
end
end Lw
namespace Lw
open PySem L2 PySem.W PySem.SeqAt Eg
section
variable {q n k : Nat} {l : List Brn} {ks : List (Hand × Hand)} {a b t : PyData} {w : Int} {R : List PyData} {a1 a7 a8 a9 : Option OD}
end
end Lw
namespace Lw
open PySem L2 PySem.W PySem.SeqAt Eg
section
variable {q n k : Nat} {l : List Brn} {ks : List (Hand × Hand)} {t : PyData} {w : Int} {R : List PyData}
variable {tx ty tz : PyData} {a1 a5 a6 a7 a8 a9 : Option OD}
end
end Lw
namespace Lw
open PySem L2 PySem.W PySem.SeqAt Eg
section
variable {q n k : Nat} {l : List Brn} {t d : PyData} {w : Int} {sp : List (Hand × Hand)}
end
end Lw
namespace Lw
open PySem L2 PySem.W PySem.SeqAt Eg
section
variable {nC : Nat} {caps : List (Nat × PyData)} {mb : M OD} {d : PyData} {ρ' : Rho} {a1 a2 a3 a4 : Option OD}
end
end Lw
namespace Lw
open PySem L2 PySem.W PySem.SeqAt Eg
theorem small_intsL {c : List PyData} (hc : ∀ d ∈ c, ∃ i, d = PyData.int i) : small (.list c) = true := by
  have h2 : ∀ c : List PyData, (∀ d ∈ c, ∃ i, d = PyData.int i) → PyData.depthAll c ≤ 5 := fun c => by
    induction c with
    | nil => intro _; simp [PyData.depthAll]
    | cons d c ih =>
      intro h
      obtain ⟨i, rfl⟩ := h d List.mem_cons_self
      have := ih fun e he => h e (List.mem_cons_of_mem _ he)
      simp only [PyData.depthAll, PyData.depth]; omega
  have := h2 c hc
  exact decide_eq_true (by simp only [PyData.depth]; omega)
end Lw
namespace Lw
open PySem L2 PySem.W PySem.SeqAt Eg
theorem er_map {α β : Type} (f : α → β) : ∀ (l : List α) (i : Nat), (l.map f).eraseIdx i = (l.eraseIdx i).map f
  | [], _ => by simp
  | _ :: _, 0 => rfl
  | x :: l, i + 1 => by rw [List.map_cons, List.eraseIdx_cons_succ, List.eraseIdx_cons_succ, List.map_cons, er_map f l i]
def folk : List Hand := [(Str.ofString "elm", Str.ofString "a"), (Str.ofString "elm", Str.ofString "bo"), (Str.ofString "oak", Str.ofString "a"), (Str.ofString "oak", Str.ofString "z")]
end Lw
namespace Lw
open PySem L2 PySem.W PySem.SeqAt Eg
def titlesL : List (Str × Int × Int) := [(Str.ofString "elm", 0, 0), (Str.ofString "elm", 0, 1), (Str.ofString "elm", 2, 0), (Str.ofString "oak", 0, 0)]
def tiD (x : Str × Int × Int) : PyData := .tuple [.str x.1, .int x.2.1, .int x.2.2]
structure BrF (x : Brn) : Prop where
  p1 : x.p.1 ∈ folk
  p2 : x.p.2 ∈ folk
  lt : lt x.p.1 x.p.2 = true
  o : (x.o, x.a, x.b) ∈ titlesL
  d0 : 0 ≤ x.d
  d1 : x.d < 30
theorem map_choose {α : Type} {f : α → PyData} : ∀ {R : List PyData}, (∀ x ∈ R, ∃ p, x = f p) → ∃ ps : List α, R = ps.map f
  | [], _ => ⟨[], rfl⟩
  | x :: R, h => by
    obtain ⟨p, rfl⟩ := h x List.mem_cons_self
    obtain ⟨ps, rfl⟩ := map_choose fun y hy => h y (List.mem_cons_of_mem _ hy)
    exact ⟨p :: ps, rfl⟩
end Lw
namespace Lw
open PySem L2 PySem.W PySem.SeqAt Eg
theorem rng1_natX {j : Int} (h0 : 0 ≤ j) (h : j < 1000000) : rng1 [.int j] = some ((List.range j.toNat).map fun i : Nat => PyData.int (i : Int)) := by
  simp only [rng1]
  rw [if_pos (by omega)]
  unfold rngD
  congr 1
  exact List.map_congr_left fun i _ => by simp
end Lw
namespace Lw
open PySem L2 PySem.W PySem.SeqAt Eg
section
variable {l : List Brn} {w : Int} {a0 a3 a4 : Option OD}
end
end Lw
namespace Lw
open PySem L2 PySem.W PySem.SeqAt Eg
section
variable {M : List PyData}
end
end Lw
namespace Lw
open PySem L2 PySem.W PySem.SeqAt Eg
theorem Ths.all {q n k : Nat} (hq : q ≤ 400) : ∀ {ds : List PyData}, (∀ d ∈ ds, Th q n k d) → Ths q (ds.length * (n + 2)) k ds
  | [], _ => (Ths.nil (n := 0) hq).mono (by omega) (Nat.le_refl _) (Nat.le_refl _) hq
  | d :: ds, h => by
    have := Ths.cons (h d List.mem_cons_self) (Ths.all hq fun e he => h e (List.mem_cons_of_mem _ he))
    refine this.mono ?_ (Nat.le_refl _) (Nat.le_refl _) hq
    rw [List.length_cons, Nat.add_mul]; omega
theorem folk_th : ∀ a ∈ folk, ∀ b ∈ folk, thB 40 100 3 (pd (a, b)) = true := by decide +kernel
theorem titles_th : ∀ t ∈ titlesL, thB 40 100 3 (tiD t) = true := by decide +kernel
theorem day_th {i : Int} (h0 : 0 ≤ i) (h1 : i < 30) : Th 40 3 0 (.int i) := Th.int (n := 2) (by omega) (by decide) (by decide)
theorem BrF.thP {x : Brn} (h : BrF x) : Th 40 100 3 (pd x.p) := Th.ofB (folk_th _ h.p1 _ h.p2) (by decide)
theorem BrF.th {x : Brn} (h : BrF x) : Th 40 300 4 (brD x) := by
  have t1 := h.thP
  have t2 : Th 40 100 3 (tiD (x.o, x.a, x.b)) := Th.ofB (titles_th _ h.o) (by decide)
  have t3 := (day_th h.d0 h.d1).mono (n' := 3) (k' := 3) (m' := 40) (Nat.le_refl _) (by omega)
  exact (Ths.cons t1 (Ths.cons t2 (Ths.cons t3 (Ths.nil (n := 0) (by decide))))).tup.mono (by omega) (by omega)
section
variable {l : List Brn} {sp : List (Hand × Hand)}
end
end Lw
namespace Lw
open PySem L2 PySem.W PySem.SeqAt Eg
theorem rep_th {q n k : Nat} {d : PyData} (h : Th q n k d) (hn : n ≤ 100000) (hk : k ≤ 60) : gRepr [d] = some (.sh (.str d.shown)) := (h.fd).1.repr (by omega) hk
theorem folk_smp : ∀ a ∈ folk, ∀ b ∈ folk, smp (pd (a, b)) = true := by decide +kernel
theorem titles_smp : ∀ t ∈ titlesL, smp (tiD t) = true := by decide +kernel
theorem BrF.smp {x : Brn} (h : BrF x) : smp (brD x) = true := by
  have h1 := folk_smp _ h.p1 _ h.p2
  have h2 := titles_smp _ h.o
  show smps [pd x.p, tiD (x.o, x.a, x.b), .int x.d] = true
  rw [smps, smps, smps, smps, h1, h2]
  rfl
structure BrS (x : Brn) : Prop where
  smp : smp (brD x) = true
  th : Th 40 300 4 (brD x)
theorem BrF.s {x : Brn} (h : BrF x) : BrS x := ⟨h.smp, h.th⟩
section
variable {q n k : Nat} {l : List Brn} {a b : PyData} {w : Int}
end
end Lw
namespace Lw
open PySem L2 PySem.W PySem.SeqAt Eg
section
variable {l : List Brn} {w : Int} {ns : List Int} {a0 a2 a3 a4 a5 a9 a10 a11 c8 : Option OD} {j : Int}
end
end Lw
namespace Lw
open PySem L2 PySem.W PySem.SeqAt Eg
section
variable {q n k : Nat} {l : List Brn} {sp : List (Hand × Hand)} {a b : PyData} {w : Int} {R : List PyData}
variable {B : PyData} {c7 c8 a9 a10 a11 : Option OD}
end
end Lw
namespace Lw
open PySem L2 PySem.W PySem.SeqAt Eg
section
variable {q n k : Nat} {l : List Brn} {sp : List (Hand × Hand)} {w : Int} {R : List PyData}
variable {B : PyData} {a9 a10 a11 : Option OD}
end
end Lw
namespace Lw
open PySem L2 PySem.W PySem.SeqAt Eg
section
variable {q n k : Nat} {l : List Brn} {sp : List (Hand × Hand)} {w : Int} {R : List PyData}
end
end Lw
namespace Lw
open PySem L2 PySem.W PySem.SeqAt Eg
section
variable {q n k : Nat} {l : List Brn} {sp : List (Hand × Hand)} {w : Int} {d : PyData}
end
end Lw
namespace Lw
open PySem L2 PySem.W PySem.SeqAt Eg
section
variable {M : List PyData} {W KM : Nat}
end
end Lw
namespace Lw
open PySem L2 PySem.W PySem.SeqAt Eg
section
variable {l : List Brn} {sp : List (Hand × Hand)}
variable {a0 a1 a2 a5 a6 a7 a10 a12 a13 a14 a15 : Option OD} {D I : List PyData} {at_ : Int} {p m : PyData}
end
end Lw
namespace Lw
open PySem L2 PySem.W PySem.SeqAt Eg
section
variable {l : List Brn} {sp : List (Hand × Hand)}
variable {a0 a1 a2 a5 a6 a7 a12 a13 a14 a15 : Option OD} {D I : List PyData} {at_ w : Int} {p tx ty tz : PyData}
end
end Lw
namespace Lw
open PySem L2 PySem.W PySem.SeqAt Eg
section
variable {l : List Brn} {sp : List (Hand × Hand)}
variable {a0 a2 a5 a6 a7 a12 a13 a14 a15 : Option OD} {I : List PyData} {at_ w : Int} {tx ty tz : PyData}
variable {a1 a9 a10 a11 c13 c14 : Option OD} {one : PyData} {J : List PyData}
end
end Lw
namespace Lw
open PySem L2 PySem.W PySem.SeqAt Eg
section
variable {l : List Brn} {sp : List (Hand × Hand)} {w : Int}
def f1 (l : List Brn) (sp : List (Hand × Hand)) (at_ : Int) (r : PyData) : List PyData := [r, .tuple [.str (Str.ofString "apart"), .tuple (rowsD l sp)], .tuple [.str (Str.ofString "apart"), .tuple (cutD (rowsD l sp) none (some at_) ++ cutD (rowsD l sp) (some (at_ + 1)) none)], .tuple [.str (Str.ofString "apart"), .tuple ((rowsD l sp).reverse)]]
def f2 (l : List Brn) (sp : List (Hand × Hand)) (one other : PyData) : List PyData := [.tuple [.str (Str.ofString "apart"), .tuple (rowsD l sp ++ cutD (rowsD l sp) none (some 1))], .tuple [.str (Str.ofString "twice"), one, other], .tuple [.str (Str.ofString "twice"), other, one], .tuple [.str (Str.ofString "twice"), one, one]]
def f3 : List PyData := [.tuple [.str (Str.ofString "apart"), .tuple []], .tuple [.str (Str.ofString "apart")]]
end
end Lw
namespace Lw
open PySem L2 PySem.W PySem.SeqAt Eg
theorem rng1_any {j : Int} (h0 : -5 ≤ j) (h : j < 1000000) : rng1 [.int j] = some ((List.range j.toNat).map fun i : Nat => PyData.int (i : Int)) := by
  simp only [rng1]
  rw [if_pos (by omega)]
  unfold rngD
  congr 1
  exact List.map_congr_left fun i _ => by simp
section
variable {l : List Brn} {t : PyData} {w : Int} {a0 a1 a3 a4 a5 a7 a8 c0 : Option OD}
end
end Lw
namespace Lw
open PySem L2 PySem.W PySem.SeqAt Eg
section
variable {l : List Brn} {sp : List (Hand × Hand)} {w : Int}
end
end Lw
namespace Lw
open PySem L2 PySem.W PySem.SeqAt Eg
theorem draw20 {xs : List PyData} {n : Nat} {many : Int} (hf : FeedAt xs n) (hn : n < 1000000) (h1 : 0 < many) (h2 : many < 1073741824) :
    ∃ v xs', 0 ≤ v ∧ v < many ∧ FeedAt xs' (n + 1) ∧ fn_draw_3 [some (.ol xs), some (.sh (.int many))] = .ok (.sh (.int v)) [some (.ol xs'), none] := by
  obtain ⟨c, s, r, k, rfl, hc, hs, hk, hkn⟩ := hf
  have h2b : many.natAbs < 2 ^ 31 := by omega
  have fl : ∀ a : Int, gFloorW (.int a) (.int many) = some (.int (a / many)) := fun a => gFloorW_int h1 h2b
  by_cases h : 0 < r
  · refine ⟨r % many, [.list c, .int s, .int (r / many), .int (k + 1)], Int.emod_nonneg _ (Int.ne_of_gt h1), Int.emod_lt_of_pos _ h1, ⟨c, s, _, _, rfl, hc, hs, by omega, by omega⟩, ?_⟩
    unfold fn_draw_3 m_draw_3
    simp?! only [ix4_3, ix4_2, put4_3, put4_2, h, gMod_int h1, fl]
  · have last : ∀ x : Int, ∃ v : Int, 0 ≤ v ∧ v < many ∧ (gPow (.int (x % 1000002557 + 52711 * (k + 1) + 29)) (.int 3) = some (.int ((x % 1000002557 + 52711 * (k + 1) + 29) ^ (3 : Int).toNat))) ∧
        gPow (.int ((x % 1000002557 + 52711 * (k + 1) + 29) ^ (3 : Int).toNat % 2147483423 + 40503 * (k + 1) + 7)) (.int 3) = some (.int (((x % 1000002557 + 52711 * (k + 1) + 29) ^ (3 : Int).toNat % 2147483423 + 40503 * (k + 1) + 7) ^ (3 : Int).toNat)) ∧
        v = ((x % 1000002557 + 52711 * (k + 1) + 29) ^ (3 : Int).toNat % 2147483423 + 40503 * (k + 1) + 7) ^ (3 : Int).toNat % 2147483399 / 32 % many := by
      intro x
      have b4 := Int.emod_nonneg ((x % 1000002557 + 52711 * (k + 1) + 29) ^ (3 : Int).toNat) (show (2147483423 : Int) ≠ 0 by decide)
      have b5 := Int.emod_lt_of_pos ((x % 1000002557 + 52711 * (k + 1) + 29) ^ (3 : Int).toNat) (show (0 : Int) < 2147483423 by decide)
      refine ⟨_, Int.emod_nonneg _ (Int.ne_of_gt h1), Int.emod_lt_of_pos _ h1, gPow_int ⟨by decide, by decide, ?_⟩, gPow_int ⟨by decide, by decide, ?_⟩, rfl⟩
      · omega
      · generalize (x % 1000002557 + 52711 * (k + 1) + 29) ^ (3 : Int).toNat % 2147483423 = y at b4 b5
        omega
    have m1 : ∀ a : Int, gMod (.int a) (.int 1000002557) = some (.int (a % 1000002557)) := fun a => gMod_int (by decide)
    have m2' : ∀ a : Int, gMod (.int a) (.int 2147483423) = some (.int (a % 2147483423)) := fun a => gMod_int (by decide)
    have m3 : ∀ a : Int, gMod (.int a) (.int 2147483399) = some (.int (a % 2147483399)) := fun a => gMod_int (by decide)
    have m4 : ∀ a : Int, gFloorW (.int a) (.int 32) = some (.int (a / 32)) := fun a => gFloorW_int (b := 10) (by decide) (by decide)
    have m5 : aMulT (.int 52711) (.int (k + 1)) = some (.sh (.int (52711 * (k + 1)))) := aMulT_int (a := 40) (b := 40) (by decide) (by omega)
    have m6 : aMulT (.int 40503) (.int (k + 1)) = some (.sh (.int (40503 * (k + 1)))) := aMulT_int (a := 40) (b := 40) (by decide) (by omega)
    have p1 : gPow (.int 10) (.int 18) = some (.int (10 ^ (18 : Int).toNat)) := gPow_int (by decide)
    have nn := ne_list_nil (small_intsL hc)
    by_cases hc0 : 0 < (c.length : Int)
    · have ne : c.isEmpty = false := by cases c with | nil => cases hc0 | cons a b => rfl
      rw [ne] at nn
      obtain ⟨x, ex⟩ := cell_at (s := s) hc hc0
      have mm := gMod_int (a := s) hc0
      obtain ⟨v, v1, v2, e1, e3, ev⟩ := last x
      by_cases hx : (10 : Int) ^ (18 : Int).toNat ≤ x
      · by_cases hb : s + 1 ≤ (c.length : Int)
        · refine ⟨x % many, [.list c, .int (s + 1), .int (x / many), .int (k + 1)], Int.emod_nonneg x (Int.ne_of_gt h1), Int.emod_lt_of_pos _ h1, ⟨c, _, _, _, rfl, hc, by omega, by omega, by omega⟩, ?_⟩
          unfold fn_draw_3 m_draw_3
          simp?! only [ix4_3, ix4_2, ix4_1, ix4_0, put4_3, put4_2, put4_1, h, gMod_int h1, fl, nn, ex, mm, hb, hx, p1]
        · refine ⟨v, [.list c, .int (s + 1), .int r, .int (k + 1)], v1, v2, ⟨c, _, _, _, rfl, hc, by omega, by omega, by omega⟩, ?_⟩
          rw [ev]
          unfold fn_draw_3 m_draw_3
          simp?! only [ix4_3, ix4_2, ix4_1, ix4_0, put4_3, put4_2, put4_1, h, gMod_int h1, nn, ex, mm, hb, hx, p1, m1, m2', m3, m4, m5, m6, e1, e3]
      · refine ⟨v, [.list c, .int (s + 1), .int r, .int (k + 1)], v1, v2, ⟨c, _, _, _, rfl, hc, by omega, by omega, by omega⟩, ?_⟩
        rw [ev]
        unfold fn_draw_3 m_draw_3
        simp?! only [ix4_3, ix4_2, ix4_1, ix4_0, put4_3, put4_2, put4_1, h, gMod_int h1, nn, ex, mm, hx, p1, m1, m2', m3, m4, m5, m6, e1, e3]
    · have ne : c.isEmpty = true := by cases c with | nil => rfl | cons a b => simp at hc0
      rw [ne] at nn
      obtain ⟨v, v1, v2, e1, e3, ev⟩ := last 41
      have hx : ¬ (10 : Int) ^ (18 : Int).toNat ≤ 41 := by decide
      refine ⟨v, [.list c, .int (s + 1), .int r, .int (k + 1)], v1, v2, ⟨c, _, _, _, rfl, hc, by omega, by omega, by omega⟩, ?_⟩
      rw [ev]
      unfold fn_draw_3 m_draw_3
      simp?! only [ix4_3, ix4_2, ix4_1, ix4_0, put4_3, put4_2, put4_1, h, gMod_int h1, nn, hx, p1, m1, m2', m3, m4, m5, m6, e1, e3]
theorem feed20 (ns : List Int) : ∃ xs, FeedAt xs 0 ∧ fn_feed_2 [some (.sc ns)] = .ok (.ol xs) [none] := by
  refine ⟨[.list (cutD (ns.map .int) none (some 63)), .int 0, .int 0, .int 0], ⟨_, _, _, _, rfl, fun d hd => ?_, Int.le_refl _, Int.le_refl _, Int.le_refl _⟩, ?_⟩
  · obtain ⟨i, _, rfl⟩ := List.mem_map.mp (List.mem_of_mem_drop (List.mem_of_mem_take hd))
    exact ⟨i, rfl⟩
  · have gl : ∀ ds : List PyData, gList [.list ds] = some (.ol ds) := fun _ => rfl
    have l4 : ∀ a b c d : PyData, lstG [a, b, c, d] = some (.ol [a, b, c, d]) := fun _ _ _ _ => if_pos (show 4 ≤ sizeLine by decide)
    unfold fn_feed_2 m_feed_2
    simp?! only [v_pt63, v_scr, v_scrk, gl, l4]
theorem any20 {xs L : List PyData} {n : Nat} (hf : FeedAt xs n) (hn : n < 900000) (hL : 0 < L.length) (hL2 : L.length < 1000) :
    ∃ d xs', d ∈ L ∧ FeedAt xs' (n + 1) ∧ fn_any [some (.ol xs), some (.sh (.list L))] = .ok (.sh d) [some (.ol xs'), none] := by
  have z := sizeLine_eq
  obtain ⟨v, xs', v0, v1, f1, e1⟩ := draw20 (many := (L.length : Int)) hf (by omega) (by omega) (by omega)
  obtain ⟨d, hd', ei⟩ := gIx_mem (l := L) v0 v1
  refine ⟨d, xs', hd', f1, ?_⟩
  have glen := gLen_any L
  unfold fn_any m_any
  simp?! only [glen, e1, v_pick, v_pk0, v_pkl, v_pkr, List.getD_cons_zero, ei]
end Lw
namespace Lw
open PySem L2 PySem.W PySem.SeqAt Eg
theorem gMax_20 (a b : Int) : gMax [.int a, .int b] = some (.sh (.int (if a < b then b else a))) := by
  simp [gMax, pairOk, alike, Eg.isNon, small, PyData.depth, isLst, dataLt_int]
  split <;> rfl
def towns20 : List Str := [Str.ofString "ash", Str.ofString "elm", Str.ofString "fir", Str.ofString "oak"]
def words20 : List Str := [Str.ofString "a", Str.ofString "ann", Str.ofString "b", Str.ofString "bob", Str.ofString "cy", Str.ofString "zzzzzzzz"]
theorem cut20 {v : Int} (h0 : 0 ≤ v) (h1 : v < 4) : ∃ k, 1 ≤ k ∧ k ≤ 4 ∧ cutD (towns20.map PyData.str) none (some (1 + v)) = (towns20.take k).map PyData.str := by
  have : v = 0 ∨ v = 1 ∨ v = 2 ∨ v = 3 := by omega
  rcases this with rfl | rfl | rfl | rfl
  · exact ⟨1, by decide, by decide, rfl⟩
  · exact ⟨2, by decide, by decide, rfl⟩
  · exact ⟨3, by decide, by decide, rfl⟩
  · exact ⟨4, by decide, by decide, rfl⟩
theorem charter20 {xs : List PyData} {n : Nat} (hf : FeedAt xs n) (hn : n < 700000) :
    ∃ (k : Nat) (a b c : PyData) (xs' : List PyData), 1 ≤ k ∧ k ≤ 4 ∧ FeedAt xs' (n + 4) ∧ fn_charter [some (.ol xs), some (.sh (.int 4))] = .ok (.sh (.tuple [.tuple ((towns20.take k).map .str), a, b, c])) [some (.ol xs'), none] := by
  obtain ⟨v1, xs1, v10, v11, f1, e1⟩ := draw20 (many := 4) hf (by omega) (by decide) (by decide)
  have d2 : ∀ a : Int, gFloorW (.int a) (.int 2) = some (.int (a / 2)) := fun a => gFloorW_int (b := 10) (by decide) (by decide)
  obtain ⟨low, elow⟩ : ∃ low : Int, low = if (2 : Int) < (2 + v1) / 2 + 1 then (2 + v1) / 2 + 1 else 2 := ⟨_, rfl⟩
  have gm := gMax_20 2 ((2 + v1) / 2 + 1)
  rw [← elow] at gm
  have lb : 2 ≤ low ∧ low ≤ 2 + v1 := by rw [elow]; split <;> omega
  obtain ⟨v2, xs2, v20, v21, f2, e2⟩ := draw20 (many := 4) f1 (by omega) (by decide) (by decide)
  obtain ⟨v3, xs3, v30, v31, f3, e3⟩ := draw20 (many := 2 + v1 - low + 1) f2 (by omega) (by omega) (by omega)
  obtain ⟨d, xs4, hd', f4, e4⟩ := any20 (L := [.int 1, .int 2, .int 3, .int 7, .int 99]) f3 (by omega) (by decide) (by decide)
  obtain ⟨k, k1, k4, ec⟩ := cut20 v20 v21
  have l5 : lstG [.int 1, .int 2, .int 3, .int 7, .int 99] = some (.ol [.int 1, .int 2, .int 3, .int 7, .int 99]) := lstG_ok (by decide)
  have t4 : ∀ a b c d : PyData, tupG [a, b, c, d] = some (.tuple [a, b, c, d]) := fun _ _ _ _ => if_pos (show 4 ≤ sizeLine by decide)
  have sl : gSl (.tuple [.str (Str.ofString "ash"), .str (Str.ofString "elm"), .str (Str.ofString "fir"), .str (Str.ofString "oak")]) none (some (1 + v2)) = some (.sh (.tuple ((towns20.take k).map .str))) := by
    rw [gSl_t]
    exact congrArg (fun x => some (OD.sh (.tuple x))) ec
  refine ⟨k, .int (2 + v1), .int (low + v3), d, xs4, k1, k4, f4.mono (by omega), ?_⟩
  unfold fn_charter m_charter
  simp?! only [e1, e2, e3, e4, d2, gm, l5, t4, sl]
def at20 (p : Str) : List Hand := words20.map fun w => (p, w)
def all20 : List Hand := towns20.flatMap at20
theorem folk_b2 {P : List PyData} {p : Str} {a0 a1 a2 a5 a6 a7 : Option OD} (hP : P.length ≤ 100) :
    m_folk_b2 [a0, a1, a2, some (.ol P), some (.sh (.str p)), a5, a6, a7] = .ok .nx [a0, a1, a2, some (.ol (P ++ (at20 p).map hd)), some (.sh (.str p)), a5, a6, a7] := by
  have z := sizeLine_eq
  have t6 : tupG [.str (Str.ofString "a"), .str (Str.ofString "ann"), .str (Str.ofString "b"), .str (Str.ofString "bob"), .str (Str.ofString "cy"), .str (Str.ofString "zzzzzzzz")] = some (.tuple (words20.map .str)) := if_pos (show 6 ≤ sizeLine by decide)
  have ec : mComp ((mFix tupG (mCons ((M.ret (.str "a")).bind fun d => M.ret (.dat d)) (mCons ((M.ret (.str "ann")).bind fun d => M.ret (.dat d)) (mCons ((M.ret (.str "b")).bind fun d => M.ret (.dat d)) (mCons ((M.ret (.str "bob")).bind fun d => M.ret (.dat d)) (mCons ((M.ret (.str "cy")).bind fun d => M.ret (.dat d)) (mCons ((M.ret (.str "zzzzzzzz")).bind fun d => M.ret (.dat d)) (mNil)))))))).bind seqItems) (tName 7) (M.ret true) (m_folk_e1) [7] [a0, a1, a2, some (.ol P), some (.sh (.str p)), a5, a6, a7] =
      .ok (.ol (words20.map fun w => hd (p, w))) [a0, a1, a2, some (.ol P), some (.sh (.str p)), a5, a6, a7] := by
    refine comp_pure (f := PyData.str) (fun w => hd (p, w)) (by simp?! only [t6]) (by decide) fun w _ => ⟨[a0, a1, a2, some (.ol P), some (.sh (.str p)), a5, a6, some (.sh (.str w))], [a0, a1, a2, some (.ol P), some (.sh (.str p)), a5, a6, some (.sh (.str w))], rfl, ?_, rfl⟩
    have t2 : ∀ a b : PyData, tupG [a, b] = some (.tuple [a, b]) := fun _ _ => if_pos (show 2 ≤ sizeLine by decide)
    unfold m_folk_e1
    simp?! only [t2]
    rfl
  have em : (words20.map fun w => hd (p, w)) = (at20 p).map hd := by unfold at20; rw [List.map_map]; rfl
  rw [em] at ec
  have le : ((at20 p).map hd).length = 6 := rfl
  have sz : P.length + ((at20 p).map hd).length ≤ sizeLine := by omega
  unfold m_folk_b2
  simp?! only [ec, v_ext, v_exto, sz]
end Lw
namespace Lw
open PySem L2 PySem.W PySem.SeqAt Eg
theorem gSorted_hds {l : List Hand} (h : l.length ≤ 1000) : gSorted [.list (l.map hd)] = some (.ol ((sortH l).map hd)) := by
  have z := sortOk_hd l h
  rw [← sortH_map]
  simp only [gSorted]
  rw [if_pos z]
theorem er_len {α : Type} {l : List α} {i : Nat} (h : i < l.length) : (l.eraseIdx i).length + 1 = l.length := by
  rw [List.length_eraseIdx, if_pos h]; omega
theorem pop20 {xs : List PyData} {n : Nat} {L : List Hand} {a1 a2 a4 a5 a6 a7 : Option OD} (hf : FeedAt xs n) (hn : n < 900000) (hL : 0 < L.length) (hL2 : L.length < 1000) :
    ∃ (y : Hand) (L' : List Hand) (xs' : List PyData), y ∈ L ∧ (∀ z ∈ L', z ∈ L) ∧ L'.length + 1 = L.length ∧ FeedAt xs' (n + 1) ∧ m_folk_e3 [some (.ol xs), a1, a2, some (.ol (L.map hd)), a4, a5, a6, a7] = .ok (hd y) [some (.ol xs'), a1, a2, some (.ol (L'.map hd)), a4, a5, a6, a7] := by
  obtain ⟨v, xs', v0, v1, f1, e1⟩ := draw20 (many := (L.length : Int)) hf (by omega) (by omega) (by omega)
  have glen : gLen [.list (L.map hd)] = some (.sh (.int (L.length : Int))) := by rw [gLen_any, List.length_map]
  have v1' : v < ((L.map hd).length : Int) := by rw [List.length_map]; exact v1
  obtain ⟨y, ey, ep⟩ := v_popk (i := 3) v0 v1' (by rw [List.length_map]; omega)
  obtain ⟨h, hh, rfl⟩ : ∃ h, L[v.toNat]? = some h ∧ hd h = y := by
    rw [List.getElem?_map] at ey
    cases q : L[v.toNat]? with
    | none => rw [q] at ey; cases ey
    | some h => rw [q] at ey; cases ey; exact ⟨h, rfl, rfl⟩
  have em : (L.map hd).eraseIdx v.toNat = (L.eraseIdx v.toNat).map hd := er_map _ _ _
  rw [em] at ep
  refine ⟨h, L.eraseIdx v.toNat, xs', List.mem_of_getElem? hh, fun z hz => List.mem_of_mem_eraseIdx hz, er_len (by omega), f1, ?_⟩
  unfold m_folk_e3
  simp?! only [glen, e1, v_pop, ep]
theorem folk_loop {xs : List PyData} {a1 a2 a5 a6 a7 : Option OD} {T : List Str} (hT : T.length ≤ 4) (hm : ∀ p ∈ T, p ∈ towns20) :
    ∃ (P : List Hand) (a4 : Option OD), (∀ h ∈ P, h ∈ all20) ∧ P.length = 6 * T.length ∧ sLoop (tName 4) m_folk_b2 (T.map .str) [some (.ol xs), a1, a2, some (.ol []), none, a5, a6, a7] = .ok .nx [some (.ol xs), a1, a2, some (.ol (P.map hd)), a4, a5, a6, a7] := by
  obtain ⟨ρ', e, P, a4, hP, hl, rfl, _⟩ := loop_inv (f := PyData.str) (t := tName 4) (b := m_folk_b2)
    (fun rest ρ => ∃ (P : List Hand) (a4 : Option OD), (∀ h ∈ P, h ∈ all20) ∧ P.length + 6 * rest.length = 6 * T.length ∧ ρ = [some (.ol xs), a1, a2, some (.ol (P.map hd)), a4, a5, a6, a7] ∧ ∀ p ∈ rest, p ∈ towns20) (by
      rintro p rest ρ ⟨P, a4, hP, hl, rfl, hr⟩
      rw [List.length_cons] at hl
      have e := folk_b2 (P := P.map hd) (p := p) (a0 := some (.ol xs)) (a1 := a1) (a2 := a2) (a5 := a5) (a6 := a6) (a7 := a7) (by rw [List.length_map]; omega)
      rw [← List.map_append] at e
      refine ⟨_, _, rfl, .inl e, P ++ at20 p, _, fun h hh => ?_, ?_, rfl, fun q hq => hr q (List.mem_cons_of_mem _ hq)⟩
      · rcases List.mem_append.mp hh with z | z
        · exact hP h z
        · exact List.mem_flatMap.mpr ⟨p, hr p List.mem_cons_self, z⟩
      · rw [List.length_append, show (at20 p).length = 6 from rfl]; omega) T [some (.ol xs), a1, a2, some (.ol []), none, a5, a6, a7] ⟨[], none, (fun h hh => nomatch hh), by simp, rfl, hm⟩
  exact ⟨P, a4, hP, by simpa using hl, e⟩
theorem folk20 {xs : List PyData} {n k : Nat} {a b c : PyData} (hf : FeedAt xs n) (hn : n < 700000) (k1 : 1 ≤ k) (k4 : k ≤ 4) :
    ∃ (F : List Hand) (xs' : List PyData), (∀ h ∈ F, h ∈ all20) ∧ 2 ≤ F.length ∧ F.length ≤ 6 ∧ FeedAt xs' (n + 10) ∧ fn_folk [some (.ol xs), some (.sh (.tuple [.tuple ((towns20.take k).map .str), a, b, c])), some (.sh (.int 6))] = .ok (.ol (F.map hd)) [some (.ol xs'), none, none] := by
  have z := sizeLine_eq
  have tl : (towns20.take k).length = k := by rw [List.length_take]; exact Nat.min_eq_left k4
  obtain ⟨P, a4, hP, pl, e1⟩ := folk_loop (xs := xs) (a1 := some (.sh (.tuple [.tuple ((towns20.take k).map .str), a, b, c]))) (a2 := some (.sh (.int 6))) (a5 := none) (a6 := none) (a7 := none) (T := towns20.take k) (by omega) fun p hp => List.mem_of_mem_take hp
  rw [tl] at pl
  obtain ⟨v, xs1, v0, v1, f1, e2⟩ := draw20 (many := 5) hf (by omega) (by decide) (by decide)
  have glen : gLen [.list (P.map hd)] = some (.sh (.int (P.length : Int))) := by rw [gLen_any, List.length_map]
  have gm := gMin_int (P.length : Int) (2 + v)
  obtain ⟨m, em⟩ : ∃ m : Nat, (if 2 + v < (P.length : Int) then 2 + v else (P.length : Int)) = (m : Int) := ⟨(if 2 + v < (P.length : Int) then 2 + v else (P.length : Int)).toNat, by split <;> omega⟩
  rw [em] at gm
  have mb : 2 ≤ m ∧ m ≤ 6 ∧ m ≤ P.length := by
    split at em <;> omega
  have rg : rng1 [.int (m : Int)] = some ((List.range m).map fun i : Nat => PyData.int (i : Int)) := by
    have := rng1_natX (j := (m : Int)) (by omega) (by omega)
    rw [Int.toNat_natCast] at this
    exact this
  obtain ⟨ds, ρ', dl, ⟨F, L, xs', b6, ed, hF, hL, ll, f2, rfl⟩, e3⟩ := comp_fold (src := mL rng1 (mCons (mSlot 5) (mNil))) (t := tName 6) (me := m_folk_e3) (vs := [6])
    (ρ := [some (.ol xs1), some (.sh (.tuple [.tuple ((towns20.take k).map .str), a, b, c])), some (.sh (.int 6)), some (.ol (P.map hd)), a4, some (.sh (.int (m : Int))), none, none]) (ρ0 := [some (.ol xs1), some (.sh (.tuple [.tuple ((towns20.take k).map .str), a, b, c])), some (.sh (.int 6)), some (.ol (P.map hd)), a4, some (.sh (.int (m : Int))), none, none])
    (l := List.range m) (f := fun i : Nat => PyData.int (i : Int)) (fun acc ρ => ∃ (F L : List Hand) (xs' : List PyData) (b6 : Option OD), acc = F.map hd ∧ (∀ h ∈ F, h ∈ all20) ∧ (∀ h ∈ L, h ∈ all20) ∧ F.length + L.length = P.length ∧ FeedAt xs' (n + 1 + F.length) ∧ ρ = [some (.ol xs'), some (.sh (.tuple [.tuple ((towns20.take k).map .str), a, b, c])), some (.sh (.int 6)), some (.ol (L.map hd)), a4, some (.sh (.int (m : Int))), b6, none])
    (by simp?! only [rg]) (by rw [List.length_range]; omega) ⟨[], P, xs1, none, rfl, (fun h hh => nomatch hh), hP, by simp, f1, rfl⟩ (fun ds r ⟨_, _, _, _, _, _, _, _, _, er⟩ => by rw [er]; rfl) (by
      rintro x _ acc ρ hlt ⟨F, L, xs', b6, rfl, hF, hL, ll, f2, rfl⟩
      rw [List.length_map, List.length_range] at hlt
      obtain ⟨y, L', xs2, hy, hL', l', f3, e⟩ := pop20 (L := L) (a1 := some (.sh (.tuple [.tuple ((towns20.take k).map .str), a, b, c]))) (a2 := some (.sh (.int 6))) (a4 := a4) (a5 := some (.sh (.int (m : Int)))) (a6 := some (.sh (.int (x : Int)))) (a7 := none) f2 (by omega) (by omega) (by omega)
      refine ⟨hd y, _, _, rfl, e, F ++ [y], L', xs2, _, by rw [List.map_append]; rfl, fun h hh => ?_, fun h hh => hL h (hL' h hh), by rw [List.length_append, List.length_singleton]; omega, by rw [List.length_append, List.length_singleton]; exact f3.mono (by omega), rfl⟩
      rcases List.mem_append.mp hh with z | z
      · exact hF h z
      · rw [List.mem_singleton.mp z]; exact hL y hy)
  rw [List.length_range, ed, List.length_map] at dl
  subst ed
  have rr : ∀ x : Option OD, restR [some (.ol xs1), some (.sh (.tuple [.tuple ((towns20.take k).map .str), a, b, c])), some (.sh (.int 6)), some (.ol (P.map hd)), a4, some (.sh (.int (m : Int))), none, none] [some (.ol xs'), some (.sh (.tuple [.tuple ((towns20.take k).map .str), a, b, c])), some (.sh (.int 6)), some (.ol (L.map hd)), a4, some (.sh (.int (m : Int))), x, none] [6] = [some (.ol xs'), some (.sh (.tuple [.tuple ((towns20.take k).map .str), a, b, c])), some (.sh (.int 6)), some (.ol (L.map hd)), a4, some (.sh (.int (m : Int))), none, none] := fun _ => rfl
  rw [rr] at e3
  have gs := gSorted_hds (l := F) (by omega)
  have sl := (sortH_perm F).length_eq
  have l0 : lstG [] = some (.ol []) := lstG_ok (by decide)
  have g0 : gIx (.tuple [.tuple ((towns20.take k).map .str), a, b, c]) (.int 0) = some (.tuple ((towns20.take k).map .str)) := rfl
  refine ⟨sortH F, xs', fun h hh => hF h ((sortH_perm F).mem_iff.mp hh), by omega, by omega, f2.mono (by omega), ?_⟩
  have e2 : fn_draw_3 [some (.ol xs), some (.sh (.int (6 - 1)))] = .ok (.sh (.int v)) [some (.ol xs1), none] := e2
  unfold fn_folk m_folk
  simp?! only [l0, g0, e1, glen, e2, gm, e3, gs]
end Lw
namespace Lw
open PySem L2 PySem.W PySem.SeqAt Eg
theorem few_step {xs : List PyData} {n : Nat} {L G : List Hand} {a1 a2 a5 : Option OD} (hf : FeedAt xs n) (hn : n < 900000) (hL : 0 < L.length) (hL2 : L.length < 1000) (hG : G.length < 1000) :
    ∃ (y : Hand) (L' : List Hand) (xs' : List PyData), y ∈ L ∧ (∀ z ∈ L', z ∈ L) ∧ L'.length + 1 = L.length ∧ FeedAt xs' (n + 1) ∧ m_few_b1 [some (.ol xs), a1, a2, some (.ol (L.map hd)), some (.ol (G.map hd)), a5] = .ok .nx [some (.ol xs'), a1, a2, some (.ol (L'.map hd)), some (.ol ((G ++ [y]).map hd)), a5] := by
  have z := sizeLine_eq
  obtain ⟨v, xs', v0, v1, f1, e1⟩ := draw20 (many := (L.length : Int)) hf (by omega) (by omega) (by omega)
  have glen : gLen [.list (L.map hd)] = some (.sh (.int (L.length : Int))) := by rw [gLen_any, List.length_map]
  have v1' : v < ((L.map hd).length : Int) := by rw [List.length_map]; exact v1
  obtain ⟨y, ey, ep⟩ := v_popk (i := 3) v0 v1' (by rw [List.length_map]; omega)
  obtain ⟨h, hh, rfl⟩ : ∃ h, L[v.toNat]? = some h ∧ hd h = y := by
    rw [List.getElem?_map] at ey
    cases q : L[v.toNat]? with
    | none => rw [q] at ey; cases ey
    | some h => rw [q] at ey; cases ey; exact ⟨h, rfl, rfl⟩
  have em : (L.map hd).eraseIdx v.toNat = (L.eraseIdx v.toNat).map hd := er_map _ _ _
  rw [em] at ep
  refine ⟨h, L.eraseIdx v.toNat, xs', List.mem_of_getElem? hh, fun z hz => List.mem_of_mem_eraseIdx hz, er_len (by omega), f1, ?_⟩
  have hG2 : (G.map hd).length < sizeLine := by rw [List.length_map]; omega
  rw [List.map_append]
  show _ = Res.ok Out.nx [some (.ol xs'), a1, a2, some (.ol ((L.eraseIdx v.toNat).map hd)), some (.ol (G.map hd ++ [hd h])), a5]
  unfold m_few_b1
  simp?! only [glen, e1, v_pop, ep, hG2]
theorem few20 {xs : List PyData} {n : Nat} {F : List Hand} (hf : FeedAt xs n) (hn : n < 700000) (hF : ∀ h ∈ F, h ∈ all20) (f1 : 1 ≤ F.length) (f6 : F.length ≤ 6) :
    ∃ (G : List Hand) (xs' : List PyData), (∀ h ∈ G, h ∈ all20) ∧ G.length ≤ 3 ∧ FeedAt xs' (n + 5) ∧ fn_few [some (.ol xs), some (.sh (.list (F.map hd))), some (.sh (.int 3))] = .ok (.sh (.tuple (G.map hd))) [some (.ol xs'), none, none] := by
  have z := sizeLine_eq
  obtain ⟨v, xs1, v0, v1, f1', e1⟩ := draw20 (many := 4) hf (by omega) (by decide) (by decide)
  have glen : gLen [.list (F.map hd)] = some (.sh (.int (F.length : Int))) := by rw [gLen_any, List.length_map]
  have gm := gMin_int (F.length : Int) v
  obtain ⟨m, em⟩ : ∃ m : Nat, (if v < (F.length : Int) then v else (F.length : Int)) = (m : Int) := ⟨(if v < (F.length : Int) then v else (F.length : Int)).toNat, by split <;> omega⟩
  rw [em] at gm
  have mb : m ≤ 3 ∧ m ≤ F.length := by
    split at em <;> omega
  have rg : rng1 [.int (m : Int)] = some ((List.range m).map fun i : Nat => PyData.int (i : Int)) := by
    have := rng1_natX (j := (m : Int)) (by omega) (by omega)
    rw [Int.toNat_natCast] at this
    exact this
  obtain ⟨ρ', e2, xs2, L, G, c5, rfl, hL, hG, ll, gl, f2⟩ := loop_inv (f := fun i : Nat => PyData.int (i : Int)) (t := tName 5) (b := m_few_b1)
    (fun rest ρ => ∃ (xs : List PyData) (L G : List Hand) (c5 : Option OD), ρ = [some (.ol xs), some (.sh (.list (F.map hd))), some (.sh (.int 3)), some (.ol (L.map hd)), some (.ol (G.map hd)), c5] ∧ (∀ h ∈ L, h ∈ all20) ∧ (∀ h ∈ G, h ∈ all20) ∧ L.length + G.length = F.length ∧ G.length + rest.length = m ∧ FeedAt xs (n + 1 + G.length)) (by
      rintro i rest ρ ⟨xs, L, G, c5, rfl, hL, hG, ll, gl, f⟩
      rw [List.length_cons] at gl
      obtain ⟨y, L', xs2, hy, hL', l', f3, e⟩ := few_step (L := L) (G := G) (a1 := some (.sh (.list (F.map hd)))) (a2 := some (.sh (.int 3))) (a5 := some (.sh (.int (i : Int)))) f (by omega) (by omega) (by omega) (by omega)
      refine ⟨_, _, rfl, .inl e, xs2, L', G ++ [y], _, rfl, fun h hh => hL h (hL' h hh), fun h hh => ?_, by rw [List.length_append, List.length_singleton]; omega, by rw [List.length_append, List.length_singleton]; omega, by rw [List.length_append, List.length_singleton]; exact f3.mono (by omega)⟩
      rcases List.mem_append.mp hh with z | z
      · exact hG h z
      · rw [List.mem_singleton.mp z]; exact hL y hy) (List.range m) [some (.ol xs1), some (.sh (.list (F.map hd))), some (.sh (.int 3)), some (.ol (F.map hd)), some (.ol []), none]
    ⟨xs1, F, [], none, rfl, hF, (fun h hh => nomatch hh), by simp, by simp, f1'⟩
  have gl : G.length = m := by simpa using gl
  have gs := gSorted_hds (l := G) (by omega)
  have sl := (sortH_perm G).length_eq
  have l0 : lstG [] = some (.ol []) := lstG_ok (by decide)
  have gL : gList [.list (F.map hd)] = some (.ol (F.map hd)) := rfl
  have e1 : fn_draw_3 [some (.ol xs), some (.sh (.int (3 + 1)))] = .ok (.sh (.int v)) [some (.ol xs1), none] := e1
  refine ⟨sortH G, xs2, fun h hh => hG h ((sortH_perm G).mem_iff.mp hh), by omega, f2.mono (by omega), ?_⟩
  unfold fn_few m_few
  simp?! only [l0, gL, glen, e1, gm, rg, e2, gs, gTup_l]
abbrev Ti := Str × Int × Int
theorem ti_alike (a b : Ti) : alike (tiD a) (tiD b) = true := by simp [tiD, alike, alikeAll]
theorem ti_small (a : Ti) : small (tiD a) = true := by simp [tiD, small, PyData.depth, PyData.depthAll]
theorem ti_key (a : Ti) : keyB (tiD a) = true := by simp [tiD, keyB, keyBs]
theorem ti_inj {a b : Ti} (h : tiD a = tiD b) : a = b := by
  obtain ⟨o, x, y⟩ := a
  obtain ⟨o', x', y'⟩ := b
  simp only [tiD, PyData.tuple.injEq, List.cons.injEq, PyData.str.injEq, PyData.int.injEq, and_true] at h
  obtain ⟨h2, h3, h4⟩ := h
  subst h2 h3 h4
  rfl
theorem ti_eqv (a b : Ti) : PyData.eqv (tiD a) (tiD b) = decide (a = b) := by
  rw [Bool.eq_iff_iff, decide_eq_true_iff, eqv_key (ti_alike a b) (ti_key a) (ti_key b)]
  exact ⟨ti_inj, fun h => by rw [h]⟩
theorem gEq_ti (a b : Ti) : gEq (tiD a) (tiD b) = some (.bool (decide (a = b))) := by
  unfold gEq
  rw [if_pos (ti_small a), ti_eqv]
theorem gNotIn_ti (l : List Ti) (x : Ti) : gNotIn (tiD x) (.list (l.map tiD)) = some (.bool (!decide (x ∈ l))) := by
  have e : ((l.map tiD).any fun y => PyData.eqv y (tiD x)) = decide (x ∈ l) := by
    rw [List.any_map, Bool.eq_iff_iff, List.any_eq_true, decide_eq_true_iff]
    constructor
    · rintro ⟨y, hy, q⟩
      have q : PyData.eqv (tiD y) (tiD x) = true := q
      rw [ti_eqv] at q
      rw [← of_decide_eq_true q]; exact hy
    · exact fun h => ⟨x, h, by show PyData.eqv (tiD x) (tiD x) = true; rw [ti_eqv]; exact decide_eq_true rfl⟩
  rw [← e]
  show (if small (tiD x) = true then some (PyData.bool (!((l.map tiD).any fun y => PyData.eqv y (tiD x)))) else none) = _
  rw [if_pos (ti_small x)]
theorem sorted_ti {l : List Ti} (h : l.length ≤ 1000) : ∃ m : List Ti, (∀ t ∈ m, t ∈ l) ∧ m.length = l.length ∧ gSorted [.list (l.map tiD)] = some (.ol (m.map tiD)) := by
  have z := sizeLine_eq
  have so : sortOk (l.map tiD) = true := by
    simp only [sortOk, alikeB, Bool.and_eq_true, Bool.or_eq_true, List.all_eq_true, decide_eq_true_eq, List.mem_map, forall_exists_index, and_imp, forall_apply_eq_imp_iff₂, List.length_map]
    exact ⟨⟨⟨fun a _ b _ => ti_alike a b, .inl fun a _ => rfl⟩, fun a _ => ti_small a⟩, by omega⟩
  have pm : (sortD (l.map tiD)).Perm (l.map tiD) := List.mergeSort_perm _ _
  obtain ⟨m, hm⟩ := map_choose (f := tiD) (R := sortD (l.map tiD)) fun d hd => by
    obtain ⟨x, _, rfl⟩ := List.mem_map.mp (pm.mem_iff.mp hd)
    exact ⟨x, rfl⟩
  refine ⟨m, fun t ht => ?_, ?_, ?_⟩
  · have h1 : tiD t ∈ m.map tiD := List.mem_map.mpr ⟨t, ht, rfl⟩
    rw [← hm] at h1
    obtain ⟨y, hy, e⟩ := List.mem_map.mp (pm.mem_iff.mp h1)
    rw [← ti_inj e]; exact hy
  · have := pm.length_eq
    rw [hm, List.length_map, List.length_map] at this
    exact this
  · simp only [gSorted]
    rw [if_pos so, hm]
end Lw
namespace Lw
open PySem L2 PySem.W PySem.SeqAt Eg
structure Cz where
  tag : Ti
  under : Option Ti
  vs : List Hand
  en : PyData
def unD : Option Ti → PyData
  | none => .none
  | some t => tiD t
def czD (c : Cz) : PyData := .tuple [tiD c.tag, unD c.under, .tuple ((c.vs.take 1).map hd), .tuple (c.vs.map hd), .tuple [], .tuple [], c.en]
def casesD (L : List Cz) : PyData := .tuple (L.map czD)
def ends20 : List PyData := [.str (Str.ofString "yes"), .str (Str.ofString "no"), .str (Str.ofString "no"), .str (Str.ofString "laid"), .str (Str.ofString "broken"), .none]
structure CzF (c : Cz) : Prop where
  vs : ∀ h ∈ c.vs, h ∈ all20
  vl : c.vs.length ≤ 3
  en : c.en ∈ ends20
def findC (L : List Cz) (t : Ti) : Option Cz := L.find? fun c => decide (c.tag = t)
theorem ends_th : ∀ d ∈ ends20, thB 40 20 0 d = true := by decide +kernel
theorem all20_th : ∀ h ∈ all20, thB 40 40 1 (hd h) = true := by decide +kernel
theorem un_depth (u : Option Ti) : (unD u).depth ≤ 1 := by
  cases u with
  | none => simp [unD, PyData.depth]
  | some t => simp [unD, tiD, PyData.depth, PyData.depthAll]
theorem hds_depth (l : List Hand) : (PyData.tuple (l.map hd)).depth ≤ 2 := by
  rw [PyData.depth]
  have := depth_all 1 (ds := l.map hd) fun d h => by
    obtain ⟨x, _, rfl⟩ := List.mem_map.mp h
    simp [hd, PyData.depth, PyData.depthAll]
  omega
theorem cz_depth {c : Cz} (h : CzF c) : (czD c).depth ≤ 3 := by
  have e := (Th.ofB (ends_th _ h.en) (by decide)).k
  have a := hds_depth (c.vs.take 1)
  have b := hds_depth c.vs
  have u := un_depth c.under
  simp only [czD, tiD, PyData.depth, PyData.depthAll] at *
  omega
theorem czs_small {L : List Cz} (h : ∀ c ∈ L, CzF c) : small (.list (L.map czD)) = true := decide_eq_true (by
  rw [PyData.depth]
  have := depth_all 3 (ds := L.map czD) fun d hd => by
    obtain ⟨c, hc, rfl⟩ := List.mem_map.mp hd
    exact cz_depth (h c hc)
  omega)
theorem gIx_cz0 (c : Cz) : gIx (czD c) (.int 0) = some (tiD c.tag) := rfl
theorem gIx_cz1 (c : Cz) : gIx (czD c) (.int 1) = some (unD c.under) := rfl
theorem gIx_cz3 (c : Cz) : gIx (czD c) (.int 3) = some (.tuple (c.vs.map hd)) := rfl
section
variable {L : List Cz} {t : Ti}
theorem cause20 (hF : ∀ c ∈ L, CzF c) (hl : L.length ≤ 1000) : fn_cause [some (.sh (casesD L)), some (.sh (tiD t))] = .ok (.sh (match findC L t with | some c => czD c | none => .none)) [none, none] := by
  have z := sizeLine_eq
  have ec : mComp ((mName 0).bind seqItems) (tName 3) (m_cause_t2) (m_cause_e1) [3] [some (.sh (casesD L)), some (.sh (tiD t)), none, none] =
      .ok (.ol ((L.filter fun c => decide (c.tag = t)).map czD)) [some (.sh (casesD L)), some (.sh (tiD t)), none, none] := by
    refine comp_filt (f := czD) (fun c => decide (c.tag = t)) czD (by unfold casesD; simp?! only []) (by omega) fun c _ => ⟨[some (.sh (casesD L)), some (.sh (tiD t)), none, some (.sh (czD c))], [some (.sh (casesD L)), some (.sh (tiD t)), none, some (.sh (czD c))], rfl, ?_, rfl, fun h => ⟨_, rfl, rfl⟩⟩
    have g0 := gIx_cz0 c
    have ge := gEq_ti c.tag t
    unfold m_cause_t2
    simp?! only [g0, ge]
  have nn := ne_list_nil (czs_small (L := L.filter fun c => decide (c.tag = t)) fun c hc => hF c (List.mem_filter.mp hc).1)
  have l0 : lstG [] = some (.ol []) := lstG_ok (by decide)
  have hf : findC L t = (L.filter fun c => decide (c.tag = t)).head? := by unfold findC; rw [List.head?_filter]
  cases q : (L.filter fun c => decide (c.tag = t)) with
  | nil =>
    rw [q] at hf nn ec
    have nn : gNe (.list []) (.list []) = some (.bool false) := nn
    have ec : mComp ((mName 0).bind seqItems) (tName 3) (m_cause_t2) (m_cause_e1) [3] [some (.sh (casesD L)), some (.sh (tiD t)), none, none] = .ok (.ol []) [some (.sh (casesD L)), some (.sh (tiD t)), none, none] := ec
    rw [show findC L t = none from hf]
    unfold fn_cause m_cause
    simp?! only [ec, l0, nn]
  | cons c cs =>
    rw [q] at hf nn ec
    have nn : gNe (.list (czD c :: cs.map czD)) (.list []) = some (.bool true) := nn
    have ec : mComp ((mName 0).bind seqItems) (tName 3) (m_cause_t2) (m_cause_e1) [3] [some (.sh (casesD L)), some (.sh (tiD t)), none, none] = .ok (.ol (czD c :: cs.map czD)) [some (.sh (casesD L)), some (.sh (tiD t)), none, none] := ec
    have g0 : gIx (.list (czD c :: cs.map czD)) (.int 0) = some (czD c) := by
      obtain ⟨A, e, B, e2, el, _, _, _, h⟩ := split_at (ds := czD c :: cs.map czD) (v := 0) (by decide) (by rw [List.length_cons]; omega)
      have : A = [] := by rw [← el]; rfl
      subst this
      cases e2
      exact h
    rw [show findC L t = some c from hf]
    unfold fn_cause m_cause
    simp?! only [ec, l0, nn, g0]
def noName (t : Ti) : Xc := ⟨Str.ofString "NoName", [(Str.ofString "name", tiD t)]⟩
theorem matter20 : fn_matter_of_2 [some (.sh (casesD L)), some (.sh (tiD t))] = (match findC L t with | some c => .ok (.sh (czD c)) [none, none] | none => .ex (noName t) [none, none]) := by
  have go : ∀ (R : List Cz) (o : Option OD), ∃ o', sLoop (tName 2) m_matter_of_2_b1 (R.map czD) [some (.sh (casesD L)), some (.sh (tiD t)), o] = (match findC R t with
      | some c => .ok (.rt (.sh (czD c))) [some (.sh (casesD L)), some (.sh (tiD t)), none]
      | none => .ok .nx [some (.sh (casesD L)), some (.sh (tiD t)), o']) := fun R => by
    induction R with
    | nil => exact fun o => ⟨o, rfl⟩
    | cons c R ih =>
      intro o
      have tn : ∀ {a0 a1 a2 : Option OD} {d : PyData}, tName 2 d [a0, a1, a2] = some [a0, a1, some (.sh d)] := rfl
      have g0 := gIx_cz0 c
      have ge := gEq_ti c.tag t
      by_cases h : c.tag = t
      · have hf : findC (c :: R) t = some c := by unfold findC; rw [List.find?_cons, decide_eq_true h]
        rw [hf]
        rw [decide_eq_true h] at ge
        refine ⟨none, ?_⟩
        rw [List.map_cons]
        unfold m_matter_of_2_b1
        simp?! only [v_lp1, tn, g0, ge, v_lpO]
      · have hf : findC (c :: R) t = findC R t := by unfold findC; rw [List.find?_cons, decide_eq_false h]
        rw [hf]
        rw [decide_eq_false h] at ge
        obtain ⟨o', e⟩ := ih (some (.sh (czD c)))
        refine ⟨o', ?_⟩
        rw [← e, List.map_cons]
        have b : m_matter_of_2_b1 [some (.sh (casesD L)), some (.sh (tiD t)), some (.sh (czD c))] = .ok .nx [some (.sh (casesD L)), some (.sh (tiD t)), some (.sh (czD c))] := by
          unfold m_matter_of_2_b1
          simp?! only [g0, ge]
        simp?! only [v_lp1, tn, b, v_lpO, v_lpn]
  obtain ⟨o', e⟩ := go L none
  cases q : findC L t with
  | some c =>
    rw [q] at e
    simp only at e
    unfold casesD at e ⊢
    unfold fn_matter_of_2 m_matter_of_2
    simp?! only [e]
  | none =>
    rw [q] at e
    simp only at e
    unfold noName
    unfold casesD at e ⊢
    unfold fn_matter_of_2 m_matter_of_2
    have rk : ∀ ρ : Rho, raiseK (Str.ofString "NoName") [Str.ofString "name"] [.dat (tiD t)] ρ = .ex ⟨Str.ofString "NoName", [(Str.ofString "name", tiD t)]⟩ ρ := fun ρ => v_raisek (ds := [tiD t]) _ _ _ rfl rfl
    simp?! only [e, v_raise, rk]
    rfl
end
end Lw
namespace Lw
open PySem L2 PySem.W PySem.SeqAt Eg
inductive Way (L : List Cz) : Option Ti → List Cz → Prop
  | nil : Way L none []
  | cons {t : Ti} {c : Cz} {w : List Cz} : findC L t = some c → Way L c.under w → Way L (some t) (c :: w)
section
variable {L : List Cz} {u : Option Ti} {w : List Cz} {t : Ti}
def wayD (w : List Cz) : List PyData := w.map fun c => tiD c.tag
theorem findC_tag {c : Cz} (h : findC L t = some c) : c.tag = t := of_decide_eq_true (List.find?_some (p := fun c : Cz => decide (c.tag = t)) h)
theorem findC_mem {c : Cz} (h : findC L t = some c) : c ∈ L := List.mem_of_find?_eq_some h
theorem Way.mem (h : Way L u w) : ∀ c ∈ w, c ∈ L ∧ findC L c.tag = some c := by
  induction h with
  | nil => intro c hc; cases hc
  | cons hf _ ih =>
    intro c hc
    rcases List.mem_cons.mp hc with rfl | hc
    · exact ⟨findC_mem hf, by rw [findC_tag hf]; exact hf⟩
    · exact ih c hc
theorem way_step {c : Cz} {acc : List PyData} (hF : ∀ c ∈ L, CzF c) (hl : L.length ≤ 1000) (hf : findC L t = some c) (ha : acc.length < 10000) :
    m_way_b2 [some (.sh (casesD L)), some (.sh (tiD t)), some (.ol acc)] = .ok .nx [some (.sh (casesD L)), some (.sh (unD c.under)), some (.ol (acc ++ [tiD c.tag]))] := by
  have z := sizeLine_eq
  have e := cause20 (t := t) hF hl
  rw [hf] at e
  simp only at e
  have g1 := gIx_cz1 c
  have sa : acc.length < sizeLine := by omega
  rw [findC_tag hf]
  unfold m_way_b2
  simp?! only [sa, e, g1]
theorem path_step {c : Cz} {acc : List PyData} (hf : findC L t = some c) (ha : acc.length < 10000) :
    m_path_of_2_b2 [some (.sh (casesD L)), some (.sh (tiD t)), some (.ol acc)] = .ok .nx [some (.sh (casesD L)), some (.sh (unD c.under)), some (.ol (acc ++ [tiD c.tag]))] := by
  have z := sizeLine_eq
  have e := matter20 (L := L) (t := t)
  rw [hf] at e
  simp only at e
  have g1 := gIx_cz1 c
  have sa : acc.length < sizeLine := by omega
  rw [findC_tag hf]
  unfold m_path_of_2_b2
  simp?! only [sa, e, g1]
theorem gNotN_un (u : Option Ti) : gNotN (unD u) = some (.bool u.isSome) := by cases u <;> rfl
theorem way_loop (hF : ∀ c ∈ L, CzF c) (hl : L.length ≤ 1000) (h : Way L u w) : ∀ (n : Nat) (acc : List PyData), acc.length + w.length < 10000 → w.length < n →
    sWhile m_way_w1 m_way_b2 n [some (.sh (casesD L)), some (.sh (unD u)), some (.ol acc)] = .ok .nx [some (.sh (casesD L)), some (.sh .none), some (.ol (acc ++ wayD w))] := by
  induction h with
  | nil =>
    intro n acc _ hn
    cases n with
    | zero => cases hn
    | succ n =>
      have w1 : m_way_w1 [some (.sh (casesD L)), some (.sh .none), some (.ol acc)] = .ok false [some (.sh (casesD L)), some (.sh .none), some (.ol acc)] := by
        unfold m_way_w1
        simp?! only []
      show sWhile _ _ (n + 1) [_, some (.sh .none), _] = _
      rw [v_wh, w1, show wayD [] = [] from rfl, List.append_nil]
      simp?! only []
  | @cons t c w hf _ ih =>
    intro n acc ha hn
    rw [List.length_cons] at ha hn
    cases n with
    | zero => cases hn
    | succ n =>
      have w1 : m_way_w1 [some (.sh (casesD L)), some (.sh (tiD t)), some (.ol acc)] = .ok true [some (.sh (casesD L)), some (.sh (tiD t)), some (.ol acc)] := by
        have gn := gNotN_un (some t)
        have gn : gNotN (tiD t) = some (.bool true) := gn
        unfold m_way_w1
        simp?! only [gn]
      have e := way_step (acc := acc) hF hl hf (by omega)
      have e2 := ih n (acc ++ [tiD c.tag]) (by rw [List.length_append, List.length_singleton]; omega) (by omega)
      rw [List.append_assoc] at e2
      show sWhile _ _ (n + 1) [_, some (.sh (tiD t)), _] = _
      rw [v_wh, w1]
      simp?! only [e, v_whn]
      exact e2
theorem path_loop (h : Way L u w) : ∀ (n : Nat) (acc : List PyData), acc.length + w.length < 10000 → w.length < n →
    sWhile m_path_of_2_w1 m_path_of_2_b2 n [some (.sh (casesD L)), some (.sh (unD u)), some (.ol acc)] = .ok .nx [some (.sh (casesD L)), some (.sh .none), some (.ol (acc ++ wayD w))] := by
  induction h with
  | nil =>
    intro n acc _ hn
    cases n with
    | zero => cases hn
    | succ n =>
      have w1 : m_path_of_2_w1 [some (.sh (casesD L)), some (.sh .none), some (.ol acc)] = .ok false [some (.sh (casesD L)), some (.sh .none), some (.ol acc)] := by
        unfold m_path_of_2_w1
        simp?! only []
      show sWhile _ _ (n + 1) [_, some (.sh .none), _] = _
      rw [v_wh, w1, show wayD [] = [] from rfl, List.append_nil]
      simp?! only []
  | @cons t c w hf _ ih =>
    intro n acc ha hn
    rw [List.length_cons] at ha hn
    cases n with
    | zero => cases hn
    | succ n =>
      have w1 : m_path_of_2_w1 [some (.sh (casesD L)), some (.sh (tiD t)), some (.ol acc)] = .ok true [some (.sh (casesD L)), some (.sh (tiD t)), some (.ol acc)] := by
        have gn : gNotN (tiD t) = some (.bool true) := gNotN_un (some t)
        unfold m_path_of_2_w1
        simp?! only [gn]
      have e := path_step (acc := acc) hf (by omega)
      have e2 := ih n (acc ++ [tiD c.tag]) (by rw [List.length_append, List.length_singleton]; omega) (by omega)
      rw [List.append_assoc] at e2
      show sWhile _ _ (n + 1) [_, some (.sh (tiD t)), _] = _
      rw [v_wh, w1]
      simp?! only [e, v_whn]
      exact e2
theorem way20 (hF : ∀ c ∈ L, CzF c) (hl : L.length ≤ 1000) (h : Way L (some t) w) (hw : w.length ≤ 100) : fn_way [some (.sh (casesD L)), some (.sh (tiD t))] = .ok (.ol (wayD w)) [none, none] := by
  have e := way_loop hF hl h 5000 [] (by rw [List.length_nil]; omega) (by omega)
  have e : sWhile m_way_w1 m_way_b2 5000 [some (.sh (casesD L)), some (.sh (tiD t)), some (.ol [])] = .ok .nx [some (.sh (casesD L)), some (.sh .none), some (.ol (wayD w))] := e
  have l0 : lstG [] = some (.ol []) := lstG_ok (by decide)
  unfold fn_way m_way
  simp?! only [l0, e]
theorem path20 (h : Way L (some t) w) (hw : w.length ≤ 100) : fn_path_of_2 [some (.sh (casesD L)), some (.sh (tiD t))] = .ok (.sh (.tuple (wayD w))) [none, none] := by
  have e := path_loop h 5000 [] (by rw [List.length_nil]; omega) (by omega)
  have e : sWhile m_path_of_2_w1 m_path_of_2_b2 5000 [some (.sh (casesD L)), some (.sh (tiD t)), some (.ol [])] = .ok .nx [some (.sh (casesD L)), some (.sh .none), some (.ol (wayD w))] := e
  have l0 : lstG [] = some (.ol []) := lstG_ok (by decide)
  unfold fn_path_of_2 m_path_of_2
  simp?! only [l0, e, gTup_l]
theorem path20_no (h : findC L t = none) : fn_path_of_2 [some (.sh (casesD L)), some (.sh (tiD t))] = .ex (noName t) [none, none] := by
  have z := sizeLine_eq
  have e := matter20 (L := L) (t := t)
  rw [h] at e
  simp only at e
  have l0 : lstG [] = some (.ol []) := lstG_ok (by decide)
  have la : ([] : List PyData).length < sizeLine := by show 0 < _; omega
  have w1 : m_path_of_2_w1 [some (.sh (casesD L)), some (.sh (tiD t)), some (.ol [])] = .ok true [some (.sh (casesD L)), some (.sh (tiD t)), some (.ol [])] := by
    have gn : gNotN (tiD t) = some (.bool true) := gNotN_un (some t)
    unfold m_path_of_2_w1
    simp?! only [gn]
  have b1 : m_path_of_2_b2 [some (.sh (casesD L)), some (.sh (tiD t)), some (.ol [])] = .ex (noName t) [some (.sh (casesD L)), some (.sh (tiD t)), some (.ol [tiD t])] := by
    unfold m_path_of_2_b2
    simp?! only [la, e]
    rfl
  have ew : sWhile m_path_of_2_w1 m_path_of_2_b2 5000 [some (.sh (casesD L)), some (.sh (tiD t)), some (.ol [])] = .ex (noName t) [some (.sh (casesD L)), some (.sh (tiD t)), some (.ol [tiD t])] := by
    show sWhile m_path_of_2_w1 m_path_of_2_b2 (4999 + 1) _ = _
    rw [v_wh, w1]
    simp?! only [b1]
    rfl
  unfold fn_path_of_2 m_path_of_2
  simp?! only [l0, ew]
  rfl
theorem root20 (h : Way L (some t) w) (hw : w.length ≤ 100) {d : PyData} (hd : gIx (.tuple (wayD w)) (.int (-1)) = some d) : fn_root_of_2 [some (.sh (casesD L)), some (.sh (tiD t))] = .ok (.sh d) [none, none] := by
  have e := path20 h hw
  unfold fn_root_of_2 m_root_of_2
  simp?! only [e, hd]
theorem root20_no (h : findC L t = none) : fn_root_of_2 [some (.sh (casesD L)), some (.sh (tiD t))] = .ex (noName t) [none, none] := by
  have e := path20_no h
  unfold fn_root_of_2 m_root_of_2
  simp?! only [e]
  rfl
end
end Lw
namespace Lw
open PySem L2 PySem.W PySem.SeqAt Eg
end Lw
namespace Lw
open PySem L2 PySem.W PySem.SeqAt Eg
abbrev Tell := Str × Lot
def cd (t : Tell) : PyData := .tuple [.str t.1, lotD t.2]
theorem kPut_nodup {kvs : List (PyData × PyData)} {k d : PyData} (h : ((kvs.map (·.1)).map nk).Nodup) : (((kPut kvs k d).map (·.1)).map nk).Nodup := by
  unfold kPut
  split
  · have e : (kRepl k d kvs).map (·.1) = kvs.map (·.1) := by
      unfold kRepl
      rw [List.map_map]
      exact List.map_congr_left fun x _ => by
        show (if nk x.1 = nk k then (x.1, d) else x).1 = x.1
        split <;> rfl
    rw [e]
    exact h
  · rename_i q
    rw [List.map_append, List.map_append]
    refine List.nodup_append.mpr ⟨h, by simp, fun a ha b hb => ?_⟩
    simp at hb
    rintro rfl
    refine q (List.any_eq_true.mpr ?_)
    rw [List.map_map] at ha
    obtain ⟨x, hx, e⟩ := List.mem_map.mp ha
    exact ⟨x, hx, decide_eq_true (by rw [← hb]; exact e)⟩
theorem kFill_nodup : ∀ {ps kvs : List (PyData × PyData)}, ((kvs.map (·.1)).map nk).Nodup → (((kFill kvs ps).map (·.1)).map nk).Nodup
  | [], _, h => h
  | p :: ps, _, h => kFill_nodup (ps := ps) (kPut_nodup h)
theorem kPut_mem {kvs : List (PyData × PyData)} {k d x : PyData} (h : x ∈ (kPut kvs k d).map (·.1)) : x ∈ kvs.map (·.1) ∨ x = k := by
  unfold kPut at h
  split at h
  · left
    have e : (kRepl k d kvs).map (·.1) = kvs.map (·.1) := by
      unfold kRepl
      rw [List.map_map]
      exact List.map_congr_left fun x _ => by
        show (if nk x.1 = nk k then (x.1, d) else x).1 = x.1
        split <;> rfl
    rw [e] at h
    exact h
  · rw [List.map_append] at h
    rcases List.mem_append.mp h with h | h
    · exact .inl h
    · exact .inr (by simpa using h)
theorem kFill_mem : ∀ {ps kvs : List (PyData × PyData)} {x : PyData}, x ∈ (kFill kvs ps).map (·.1) → x ∈ kvs.map (·.1) ∨ x ∈ ps.map (·.1)
  | [], _, _, h => .inl h
  | p :: ps, kvs, x, h => by
    rcases kFill_mem (ps := ps) h with h | h
    · rcases kPut_mem h with h | h
      · exact .inl h
      · exact .inr (by rw [h]; exact List.mem_cons_self)
    · exact .inr (List.mem_cons_of_mem _ h)
theorem kHas_mem {kvs : List (PyData × PyData)} {k : PyData} (h : kHas kvs k = true) : ∃ x ∈ kvs.map (·.1), nk x = nk k := by
  obtain ⟨p, hp, e⟩ := List.any_eq_true.mp h
  exact ⟨p.1, List.mem_map.mpr ⟨p, hp, rfl⟩, of_decide_eq_true e⟩
open List in
theorem keys_once {ps : List (PyData × PyData)} (kb : ∀ d ∈ ps.map (·.1), keyB d = true) : (kFill [] ps).map (·.1) ~ once (ps.map (·.1)) := by
  have nd : (((kFill [] ps).map (·.1)).map nk).Nodup := kFill_nodup (by simp)
  have mem : ∀ x ∈ (kFill [] ps).map (·.1), x ∈ ps.map (·.1) := fun x hx => (kFill_mem hx).resolve_left (by simp)
  refine (List.perm_ext_iff_of_nodup (Eg.nodup_of_map nd) (Eg.nodup_of_map (once_nodup _))).mpr fun d => ⟨fun h => ?_, fun h => ?_⟩
  · obtain ⟨e, he, q⟩ := once_all (mem d h)
    rw [nk_inj e d (kb e (once_mem he)) (kb d (mem d h)) q] at he
    exact he
  · have h1 := once_mem h
    have hh : kHas (kFill [] ps) d = true := by
      rw [kHas_fill]
      refine Bool.or_eq_true_iff.mpr (.inr ?_)
      obtain ⟨p, hp, rfl⟩ := List.mem_map.mp h1
      exact List.any_eq_true.mpr ⟨p, hp, decide_eq_true rfl⟩
    obtain ⟨x, hx, q⟩ := kHas_mem hh
    rw [nk_inj x d (kb x (mem x hx)) (kb d h1) q] at hx
    exact hx
end Lw
namespace Lw
open PySem L2 PySem.W PySem.SeqAt Eg
theorem kb_hd20 {l : List Hand} : ∀ d ∈ l.map hd, keyB d = true := fun d hd' => by
  obtain ⟨p, _, rfl⟩ := List.mem_map.mp hd'
  exact (keyT_at (key_hd p)).1
theorem alike_hd20 {l : List Hand} : ∀ d ∈ l.map hd, ∀ e ∈ l.map hd, alike d e = true := by
  intro d hd' e he
  obtain ⟨x, _, rfl⟩ := List.mem_map.mp hd'
  obtain ⟨y, _, rfl⟩ := List.mem_map.mp he
  exact hd_alike x y
def hdT (l : List Hand) : List (PyData × PyData) := l.map fun x => (hd x, PyData.bool true)
def heads (l : List Hand) : List PyData := sortD (once (l.map hd))
open List in
theorem keys20 {l : List Hand} (h : l.length ≤ 1000) : kSorted (kFill [] (hdT l)) = some (.ol (heads l)) := by
  have ek : (hdT l).map (·.1) = l.map hd := by unfold hdT; rw [List.map_map]; rfl
  have kb : ∀ d ∈ (hdT l).map (·.1), keyB d = true := by
    rw [ek]
    exact kb_hd20
  have pm := keys_once kb
  rw [ek] at pm
  have mem : ∀ x ∈ (kFill [] (hdT l)).map (·.1), x ∈ l.map hd := fun x hx => once_mem (pm.mem_iff.mp hx)
  have so : sortOk ((kFill [] (hdT l)).map (·.1)) = true := by
    refine sortOk_sub (sortOk_hd l h) mem ?_
    have := kFill_len (hdT l) []
    have e2 : (hdT l).length = l.length := List.length_map _
    rw [List.length_nil, e2] at this
    rw [List.length_map, sizeLine_eq]
    omega
  have ss := sort_perm pm (fun d hd' e he => alike_hd20 d (mem d hd') e (mem e he)) fun d hd' => kb_hd20 d (mem d hd')
  unfold kSorted
  rw [if_pos so, ss]
  rfl
section
variable {L : List Cz} {u : Option Ti} {w : List Cz} {t : Ti}
def voices (w : List Cz) : List Hand := w.flatMap (·.vs)
theorem voice_b1 {l : List Hand} {a0 a1 a3 : Option OD} {x : Hand} (h : l.length ≤ 1000) : m_path_voices_2_b1 [a0, a1, some (.kd (kFill [] (hdT l))), a3, some (.sh (hd x))] = .ok .nx [a0, a1, some (.kd (kFill [] (hdT (l ++ [x])))), a3, some (.sh (hd x))] := by
  have z := sizeLine_eq
  have sz : (kFill [] (hdT l)).length < sizeLine := by
    have := kFill_len (hdT l) []
    have e2 : (hdT l).length = l.length := List.length_map _
    rw [List.length_nil, e2] at this
    omega
  have ef : kFill [] (hdT (l ++ [x])) = kPut (kFill [] (hdT l)) (hd x) (.bool true) := by
    unfold hdT
    rw [List.map_append, kFill_append]
    rfl
  have kp : ∀ ρ, kputO (some (some (.kd (kFill [] (hdT l))))) 2 (.bool true) (hd x) ρ = .ok .nx (ρ.set 2 (some (.kd (kPut (kFill [] (hdT l)) (hd x) (.bool true))))) := fun ρ => v_kputO (key_hd x) sz
  rw [ef]
  unfold m_path_voices_2_b1
  simp?! only [v_kput, kp]
theorem voice_in {a0 a1 a3 : Option OD} : ∀ (vs : List Hand) (l : List Hand) (a4 : Option OD), l.length + vs.length ≤ 1000 → ∃ a4', sLoop (tName 4) m_path_voices_2_b1 (vs.map hd) [a0, a1, some (.kd (kFill [] (hdT l))), a3, a4] = .ok .nx [a0, a1, some (.kd (kFill [] (hdT (l ++ vs)))), a3, a4']
  | [], l, a4, _ => ⟨a4, by rw [List.append_nil]; rfl⟩
  | x :: vs, l, a4, h => by
    rw [List.length_cons] at h
    obtain ⟨a4', e⟩ := voice_in (a0 := a0) (a1 := a1) (a3 := a3) vs (l ++ [x]) (some (.sh (hd x))) (by rw [List.length_append, List.length_singleton]; omega)
    refine ⟨a4', ?_⟩
    have b := voice_b1 (l := l) (a0 := a0) (a1 := a1) (a3 := a3) (x := x) (by omega)
    have tn : ∀ {a0 a1 a2 a3 a4 : Option OD} {d : PyData}, tName 4 d [a0, a1, a2, a3, a4] = some [a0, a1, a2, a3, some (.sh d)] := rfl
    rw [List.append_assoc] at e
    have e : sLoop (tName 4) m_path_voices_2_b1 (vs.map hd) [a0, a1, some (.kd (kFill [] (hdT (l ++ [x])))), a3, some (.sh (hd x))] = .ok .nx [a0, a1, some (.kd (kFill [] (hdT (l ++ x :: vs)))), a3, a4'] := e
    rw [← e, List.map_cons]
    simp?! only [v_lp1, tn, b, v_lpO, v_lpn]
theorem voice_b2 {l : List Hand} {a1 a4 : Option OD} {c : Cz} (hf : findC L c.tag = some c) (h : l.length + c.vs.length ≤ 1000) :
    ∃ a4', m_path_voices_2_b2 [some (.sh (casesD L)), a1, some (.kd (kFill [] (hdT l))), some (.sh (tiD c.tag)), a4] = .ok .nx [some (.sh (casesD L)), a1, some (.kd (kFill [] (hdT (l ++ c.vs)))), some (.sh (tiD c.tag)), a4'] := by
  have e := matter20 (L := L) (t := c.tag)
  rw [hf] at e
  simp only at e
  have g3 := gIx_cz3 c
  obtain ⟨a4', e2⟩ := voice_in (a0 := some (.sh (casesD L))) (a1 := a1) (a3 := some (.sh (tiD c.tag))) c.vs l a4 h
  refine ⟨a4', ?_⟩
  unfold m_path_voices_2_b2
  simp?! only [e, g3, e2]
theorem voice_out {a1 : Option OD} : ∀ (w : List Cz) (l : List Hand) (a3 a4 : Option OD), (∀ c ∈ w, findC L c.tag = some c) → l.length + (voices w).length ≤ 1000 →
    ∃ a3' a4', sLoop (tName 3) m_path_voices_2_b2 (wayD w) [some (.sh (casesD L)), a1, some (.kd (kFill [] (hdT l))), a3, a4] = .ok .nx [some (.sh (casesD L)), a1, some (.kd (kFill [] (hdT (l ++ voices w)))), a3', a4']
  | [], l, a3, a4, _, _ => ⟨a3, a4, by rw [show voices [] = [] from rfl, List.append_nil]; rfl⟩
  | c :: w, l, a3, a4, hw, h => by
    have ev : voices (c :: w) = c.vs ++ voices w := rfl
    rw [ev, List.length_append] at h
    obtain ⟨b4, e1⟩ := voice_b2 (l := l) (a1 := a1) (a4 := a4) (hw c List.mem_cons_self) (by omega)
    obtain ⟨a3', a4', e⟩ := voice_out (a1 := a1) w (l ++ c.vs) (some (.sh (tiD c.tag))) b4 (fun d hd => hw d (List.mem_cons_of_mem _ hd)) (by rw [List.length_append]; omega)
    refine ⟨a3', a4', ?_⟩
    have tn : ∀ {a0 a1 a2 a3 a4 : Option OD} {d : PyData}, tName 3 d [a0, a1, a2, a3, a4] = some [a0, a1, a2, some (.sh d), a4] := rfl
    rw [List.append_assoc, ← ev] at e
    rw [← e]
    show sLoop _ _ (tiD c.tag :: wayD w) _ = _
    simp?! only [v_lp1, tn, e1, v_lpO, v_lpn]
theorem voices20 (h : Way L (some t) w) (hw : w.length ≤ 100) (hv : (voices w).length ≤ 60) : fn_path_voices_2 [some (.sh (casesD L)), some (.sh (tiD t))] = .ok (.sh (.tuple (heads (voices w)))) [none, none] := by
  have e := path20 h hw
  obtain ⟨a3, a4, e2⟩ := voice_out (L := L) (a1 := some (.sh (tiD t))) w [] none none (fun c hc => (h.mem c hc).2) (by rw [List.length_nil]; omega)
  rw [List.nil_append] at e2
  have e2 : sLoop (tName 3) m_path_voices_2_b2 (wayD w) [some (.sh (casesD L)), some (.sh (tiD t)), some (.kd []), none, none] = .ok .nx [some (.sh (casesD L)), some (.sh (tiD t)), some (.kd (kFill [] (hdT (voices w)))), a3, a4] := e2
  have ks := keys20 (l := voices w) (by omega)
  unfold fn_path_voices_2 m_path_voices_2
  simp?! only [e, e2, v_kcall, v_dck, v_kcO, ks, gTup_l]
theorem voices20_no (h : findC L t = none) : fn_path_voices_2 [some (.sh (casesD L)), some (.sh (tiD t))] = .ex (noName t) [none, none] := by
  have e := path20_no h
  unfold fn_path_voices_2 m_path_voices_2
  simp?! only [e]
  rfl
theorem head_b1 {l : List Hand} {a1 : Option OD} {c : Cz} (hF : ∀ c ∈ L, CzF c) (hl : L.length ≤ 1000) (hf : findC L c.tag = some c) (h : l.length + c.vs.length ≤ 1000) :
    m_heads_b1 [some (.sh (casesD L)), a1, some (.ol (l.map hd)), some (.sh (tiD c.tag))] = .ok .nx [some (.sh (casesD L)), a1, some (.ol ((l ++ c.vs).map hd)), some (.sh (tiD c.tag))] := by
  have z := sizeLine_eq
  have e := cause20 (t := c.tag) hF hl
  rw [hf] at e
  simp only at e
  have g3 := gIx_cz3 c
  have gl := gList_t (c.vs.map hd)
  have sz : (l.map hd).length + (c.vs.map hd).length ≤ sizeLine := by rw [List.length_map, List.length_map]; omega
  rw [List.map_append]
  unfold m_heads_b1
  simp?! only [e, g3, gl, v_ext, v_exto, sz]
theorem head_out {a1 : Option OD} (hF : ∀ c ∈ L, CzF c) (hl : L.length ≤ 1000) : ∀ (w : List Cz) (l : List Hand) (a3 : Option OD), (∀ c ∈ w, findC L c.tag = some c) → l.length + (voices w).length ≤ 1000 →
    ∃ a3', sLoop (tName 3) m_heads_b1 (wayD w) [some (.sh (casesD L)), a1, some (.ol (l.map hd)), a3] = .ok .nx [some (.sh (casesD L)), a1, some (.ol ((l ++ voices w).map hd)), a3']
  | [], l, a3, _, _ => ⟨a3, by rw [show voices [] = [] from rfl, List.append_nil]; rfl⟩
  | c :: w, l, a3, hw, h => by
    have ev : voices (c :: w) = c.vs ++ voices w := rfl
    rw [ev, List.length_append] at h
    have e1 := head_b1 (l := l) (a1 := a1) hF hl (hw c List.mem_cons_self) (by omega)
    obtain ⟨a3', e⟩ := head_out (a1 := a1) hF hl w (l ++ c.vs) (some (.sh (tiD c.tag))) (fun d hd => hw d (List.mem_cons_of_mem _ hd)) (by rw [List.length_append]; omega)
    refine ⟨a3', ?_⟩
    have tn : ∀ {a0 a1 a2 a3 : Option OD} {d : PyData}, tName 3 d [a0, a1, a2, a3] = some [a0, a1, a2, some (.sh d)] := rfl
    rw [List.append_assoc, ← ev] at e
    rw [← e]
    show sLoop _ _ (tiD c.tag :: wayD w) _ = _
    simp?! only [v_lp1, tn, e1, v_lpO, v_lpn]
theorem heads20 (hF : ∀ c ∈ L, CzF c) (hl : L.length ≤ 1000) (h : Way L (some t) w) (hw : w.length ≤ 100) (hv : (voices w).length ≤ 60) : fn_heads [some (.sh (casesD L)), some (.sh (tiD t))] = .ok (.ol (heads (voices w))) [none, none] := by
  have e := way20 hF hl h hw
  obtain ⟨a3, e2⟩ := head_out (L := L) (a1 := some (.sh (tiD t))) hF hl w [] none (fun c hc => (h.mem c hc).2) (by rw [List.length_nil]; omega)
  rw [List.nil_append] at e2
  have e2 : sLoop (tName 3) m_heads_b1 (wayD w) [some (.sh (casesD L)), some (.sh (tiD t)), some (.ol []), none] = .ok .nx [some (.sh (casesD L)), some (.sh (tiD t)), some (.ol ((voices w).map hd)), a3] := e2
  have gk : gKeys [.list ((voices w).map hd)] = some ((voices w).map hd) := gKeys_hd (l := voices w) (by omega)
  have go := gOnce_hd (l := voices w) (by omega)
  have l0 : lstG [] = some (.ol []) := lstG_ok (by decide)
  unfold fn_heads m_heads heads
  simp?! only [l0, e, e2, v_sset, gk, go]
end
end Lw
namespace Lw
open PySem L2 PySem.W PySem.SeqAt Eg
def names20 : List Str := [Str.ofString "ash", Str.ofString "elm", Str.ofString "zz"]
structure TiF (t : Ti) : Prop where
  o : t.1 ∈ names20
  a0 : 0 ≤ t.2.1
  a1 : t.2.1 < 3
  b0 : 0 ≤ t.2.2
  b1 : t.2.2 < 4
theorem tag_step {xs : List PyData} {n : Nat} {T : List Ti} {a1 a3 a4 a5 a6 a7 a8 a9 a10 : Option OD} (hf : FeedAt xs n) (hn : n < 800000) (hT : T.length < 100) (hTF : ∀ t ∈ T, TiF t) :
    ∃ (T' : List Ti) (xs' : List PyData) (b4 : Option OD), (∀ t ∈ T', TiF t) ∧ T'.length ≤ T.length + 1 ∧ FeedAt xs' (n + 3) ∧ m_causes_b1 [some (.ol xs), a1, some (.ol (T.map tiD)), a3, a4, a5, a6, a7, a8, a9, a10] = .ok .nx [some (.ol xs'), a1, some (.ol (T'.map tiD)), a3, b4, a5, a6, a7, a8, a9, a10] := by
  have z := sizeLine_eq
  obtain ⟨d, xs1, hd', f1, e1⟩ := any20 (L := names20.map .str) hf (by omega) (by decide) (by decide)
  obtain ⟨o, ho, rfl⟩ := List.mem_map.mp hd'
  obtain ⟨a, xs2, a0, a1', f2, e2⟩ := draw20 (many := 3) f1 (by omega) (by decide) (by decide)
  obtain ⟨b, xs3, b0, b1, f3, e3⟩ := draw20 (many := 4) f2 (by omega) (by decide) (by decide)
  have l3 : lstG [.str (Str.ofString "ash"), .str (Str.ofString "elm"), .str (Str.ofString "zz")] = some (.ol (names20.map .str)) := lstG_ok (by decide)
  have t3 : tupG [.str o, .int a, .int b] = some (tiD (o, a, b)) := if_pos (show 3 ≤ sizeLine by decide)
  have gn := gNotIn_ti T (o, a, b)
  by_cases h : (o, a, b) ∈ T
  · rw [decide_eq_true h] at gn
    refine ⟨T, xs3, some (.sh (tiD (o, a, b))), hTF, by omega, f3.mono (by omega), ?_⟩
    unfold m_causes_b1
    simp?! only [l3, e1, e2, e3, t3, gn]
  · rw [decide_eq_false h] at gn
    have sz : (T.map tiD).length < sizeLine := by rw [List.length_map]; omega
    refine ⟨T ++ [(o, a, b)], xs3, some (.sh (tiD (o, a, b))), fun t ht => ?_, by rw [List.length_append, List.length_singleton]; omega, f3.mono (by omega), ?_⟩
    · rcases List.mem_append.mp ht with q | q
      · exact hTF t q
      · rw [List.mem_singleton.mp q]; exact ⟨ho, a0, a1', b0, b1⟩
    · rw [List.map_append]
      show _ = Res.ok Out.nx [some (.ol xs3), a1, some (.ol (T.map tiD ++ [tiD (o, a, b)])), a3, some (.sh (tiD (o, a, b))), a5, a6, a7, a8, a9, a10]
      unfold m_causes_b1
      simp?! only [l3, e1, e2, e3, t3, gn, sz]
def wayOf (L : List Cz) : Nat → Option Ti → List Cz
  | 0, _ => []
  | _, none => []
  | n + 1, some t => match findC L t with
    | some c => c :: wayOf L n c.under
    | none => []
theorem wayOf_eq {L : List Cz} {u : Option Ti} {w : List Cz} (h : Way L u w) : ∀ n, w.length ≤ n → wayOf L n u = w := by
  induction h with
  | nil => intro n _; cases n <;> rfl
  | @cons t c w hf _ ih =>
    intro n hn
    cases n with
    | zero => cases hn
    | succ n =>
      rw [List.length_cons] at hn
      show (match findC L t with | some c => c :: wayOf L n c.under | none => []) = _
      rw [hf]
      show c :: wayOf L n c.under = _
      rw [ih n (by omega)]
theorem findC_more {L : List Cz} {t : Ti} {c c' : Cz} (h : findC L t = some c) : findC (L ++ [c']) t = some c := by
  unfold findC at h ⊢
  rw [List.find?_append, h]
  rfl
theorem findC_new {L : List Cz} {c' : Cz} (h : findC L c'.tag = none) : findC (L ++ [c']) c'.tag = some c' := by
  unfold findC at h ⊢
  rw [List.find?_append, h, List.find?_cons, decide_eq_true rfl]
  rfl
theorem Way.more {L : List Cz} {u : Option Ti} {w : List Cz} {c' : Cz} (h : Way L u w) : Way (L ++ [c']) u w := by
  induction h with
  | nil => exact .nil
  | cons hf _ ih => exact .cons (findC_more hf) ih
structure Good20 (L : List Cz) : Prop where
  f : ∀ c ∈ L, CzF c
  t : ∀ c ∈ L, TiF c.tag
  w : ∀ c ∈ L, ∃ w, Way L (some c.tag) w ∧ w.length ≤ 4
  u : ∀ c ∈ L, ∀ s, c.under = some s → TiF s
def shortB (L : List Cz) (c : Cz) : Bool := decide ((wayOf L 10 (some c.tag)).length < 4)
theorem Good20.add {L : List Cz} {c : Cz} (h : Good20 L) (hf : CzF c) (ht : TiF c.tag) (hu : c.under = none ∨ ∃ c1 ∈ L, shortB L c1 = true ∧ c.under = some c1.tag) : Good20 (L ++ [c]) := by
  refine ⟨fun d hd => ?_, fun d hd => ?_, fun d hd => ?_, fun d hd s hs => ?_⟩
  · rcases List.mem_append.mp hd with q | q
    · exact h.f d q
    · rw [List.mem_singleton.mp q]; exact hf
  · rcases List.mem_append.mp hd with q | q
    · exact h.t d q
    · rw [List.mem_singleton.mp q]; exact ht
  · rcases List.mem_append.mp hd with q | q
    · obtain ⟨w, h1, h2⟩ := h.w d q
      exact ⟨w, h1.more, h2⟩
    · rw [List.mem_singleton.mp q]
      cases e : findC L c.tag with
      | some c0 =>
        obtain ⟨w, h1, h2⟩ := h.w c0 (findC_mem e)
        rw [findC_tag e] at h1
        exact ⟨w, h1.more, h2⟩
      | none =>
        rcases hu with hu | ⟨c1, h1, h2, hu⟩
        · exact ⟨[c], .cons (findC_new e) (by rw [hu]; exact .nil), by rw [List.length_singleton]; omega⟩
        · obtain ⟨w, w1, w2⟩ := h.w c1 h1
          have := of_decide_eq_true h2
          rw [wayOf_eq w1 10 (by omega)] at this
          exact ⟨c :: w, .cons (findC_new e) (by rw [hu]; exact w1.more), by rw [List.length_cons]; omega⟩
  · rcases List.mem_append.mp hd with q | q
    · exact h.u d q s hs
    · rw [List.mem_singleton.mp q] at hs
      rcases hu with hu | ⟨c1, h1, _, hu⟩
      · rw [hu] at hs; cases hs
      · rw [hu] at hs; cases hs; exact h.t c1 h1
theorem short20 {L : List Cz} {a0 a1 a2 a3 a4 a6 a7 a8 a9 : Option OD} (h : Good20 L) (hl : L.length ≤ 100) :
    mComp ((mName 5).bind seqItems) (tName 10) (m_causes_t3) (m_causes_e2) [10] [a0, a1, a2, a3, a4, some (.sh (casesD L)), a6, a7, a8, a9, none] =
      .ok (.ol ((L.filter (shortB L)).map fun c => tiD c.tag)) [a0, a1, a2, a3, a4, some (.sh (casesD L)), a6, a7, a8, a9, none] := by
  have z := sizeLine_eq
  refine comp_filt (f := czD) (shortB L) (fun c => tiD c.tag) (by unfold casesD; simp?! only []) (by omega) fun c hc => ⟨[a0, a1, a2, a3, a4, some (.sh (casesD L)), a6, a7, a8, a9, some (.sh (czD c))], [a0, a1, a2, a3, a4, some (.sh (casesD L)), a6, a7, a8, a9, some (.sh (czD c))], rfl, ?_, rfl, fun _ => ⟨[a0, a1, a2, a3, a4, some (.sh (casesD L)), a6, a7, a8, a9, some (.sh (czD c))], ?_, rfl⟩⟩
  · obtain ⟨w, w1, w2⟩ := h.w c hc
    have e := way20 h.f (by omega) w1 (by omega)
    have g0 := gIx_cz0 c
    have gl : gLen [.list (wayD w)] = some (.sh (.int (w.length : Int))) := by rw [gLen_any]; unfold wayD; rw [List.length_map]
    have es : shortB L c = decide (w.length < 4) := by unfold shortB; rw [wayOf_eq w1 10 (by omega)]
    rw [es]
    unfold m_causes_t3
    by_cases q : w.length < 4
    · have q2 : (w.length : Int) < 4 := by omega
      rw [decide_eq_true q]
      simp?! only [g0, e, gl, q2]
    · have q2 : ¬ (w.length : Int) < 4 := by omega
      rw [decide_eq_false q]
      simp?! only [g0, e, gl, q2]
  · have g0 := gIx_cz0 c
    unfold m_causes_e2
    simp?! only [g0]
end Lw
namespace Lw
open PySem L2 PySem.W PySem.SeqAt Eg
theorem take1_20 (G : List Hand) : gSl (.tuple (G.map hd)) none (some 1) = some (.sh (.tuple ((G.take 1).map hd))) := by
  rw [gSl_t, cut_to (v := 1) (by decide), List.map_take]
  rfl
def m_case_tl : M Out := (sSeq (sSet 8 (mCallO fn_few (mCons (mSlot 0) (mCons ((mName 1).bind fun d => M.ret (.dat d)) (mCons ((M.ret (.int 3)).bind fun d => M.ret (.dat d)) (mNil)))))) (sSeq (sSet 9 (mCallO fn_any (mCons (mSlot 0) (mCons (((mFix lstG (mCons ((M.ret (.str "yes")).bind fun d => M.ret (.dat d)) (mCons ((M.ret (.str "no")).bind fun d => M.ret (.dat d)) (mCons ((M.ret (.str "no")).bind fun d => M.ret (.dat d)) (mCons ((M.ret (.str "laid")).bind fun d => M.ret (.dat d)) (mCons ((M.ret (.str "broken")).bind fun d => M.ret (.dat d)) (mCons ((M.ret .none).bind fun d => M.ret (.dat d)) (mNil)))))))).bind fz).bind fun d => M.ret (.dat d)) (mNil))))) (sSet 5 (m2 aAdd (mSlot 5) ((mFix tupG (mCons ((mFix tupG (mCons ((mName 4).bind fun d => M.ret (.dat d)) (mCons ((mName 7).bind fun d => M.ret (.dat d)) (mCons (((mSl (mSlot 8) (M.ret none) ((M.ret (.int 1)).bind fun d => (asInt d).bind fun i => M.ret (some i))).bind fz).bind fun d => M.ret (.dat d)) (mCons ((mName 8).bind fun d => M.ret (.dat d)) (mCons ((mFix tupG (mNil)).bind fun d => M.ret (.dat d)) (mCons ((mFix tupG (mNil)).bind fun d => M.ret (.dat d)) (mCons ((mName 9).bind fun d => M.ret (.dat d)) (mNil))))))))).bind fun d => M.ret (.dat d)) (mNil))).bind fun d => M.ret (.dat d))))))
theorem case_eq : m_causes_b4 = sSeq (sSet 6 (mComp ((mName 5).bind seqItems) (tName 10) (m_causes_t3) (m_causes_e2) [10])) (sSeq (sSet 7 (mIf (mAnd ((m2 gNe (mSlot 6) (((mFix lstG (mNil)).bind fz).bind fun d => M.ret (.dat d))).bind asBool) ((m2 gGt (((mCallO fn_draw_3 (mCons (mSlot 0) (mCons ((M.ret (.int 3)).bind fun d => M.ret (.dat d)) (mNil)))).bind fz).bind fun d => M.ret (.dat d)) ((M.ret (.int 0)).bind fun d => M.ret (.dat d))).bind asBool)) (mCallO fn_any (mCons (mSlot 0) (mCons ((mName 6).bind fun d => M.ret (.dat d)) (mNil)))) ((M.ret .none).bind fun d => M.ret (.sh d)))) m_case_tl) := rfl
theorem case_step {xs : List PyData} {n : Nat} {L : List Cz} {F : List Hand} {t : Ti} {a2 a3 a6 a7 a8 a9 : Option OD} (hf : FeedAt xs n) (hn : n < 600000) (hG : Good20 L) (hl : L.length ≤ 100) (ht : TiF t) (hF : ∀ h ∈ F, h ∈ all20) (f1 : 1 ≤ F.length) (f6 : F.length ≤ 6) :
    ∃ (c : Cz) (xs' : List PyData) (b6 b7 b8 b9 : Option OD), Good20 (L ++ [c]) ∧ FeedAt xs' (n + 10) ∧
      m_causes_b4 [some (.ol xs), some (.sh (.list (F.map hd))), a2, a3, some (.sh (tiD t)), some (.sh (casesD L)), a6, a7, a8, a9, none] = .ok .nx [some (.ol xs'), some (.sh (.list (F.map hd))), a2, a3, some (.sh (tiD t)), some (.sh (casesD (L ++ [c]))), b6, b7, b8, b9, none] := by
  have z := sizeLine_eq
  have es := short20 (L := L) (a0 := some (.ol xs)) (a1 := some (.sh (.list (F.map hd)))) (a2 := a2) (a3 := a3) (a4 := some (.sh (tiD t))) (a6 := a6) (a7 := a7) (a8 := a8) (a9 := a9) hG hl
  have l0 : lstG [] = some (.ol []) := lstG_ok (by decide)
  have fl : (L.filter (shortB L)).length ≤ 100 := Nat.le_trans (List.length_filter_le _ _) hl
  have sm : small (.list ((L.filter (shortB L)).map fun c => tiD c.tag)) = true := decide_eq_true (by
    rw [PyData.depth]
    have := depth_all 1 (ds := (L.filter (shortB L)).map fun c => tiD c.tag) fun d hd => by
      obtain ⟨c, _, rfl⟩ := List.mem_map.mp hd
      simp [tiD, PyData.depth, PyData.depthAll]
    omega)
  have nn := ne_list_nil sm
  have ends : lstG [.str (Str.ofString "yes"), .str (Str.ofString "no"), .str (Str.ofString "no"), .str (Str.ofString "laid"), .str (Str.ofString "broken"), .none] = some (.ol ends20) := lstG_ok (by decide)
  have t7 : ∀ a b c d e f g : PyData, tupG [a, b, c, d, e, f, g] = some (.tuple [a, b, c, d, e, f, g]) := fun _ _ _ _ _ _ _ => if_pos (show 7 ≤ sizeLine by decide)
  have t1 : ∀ a : PyData, tupG [a] = some (.tuple [a]) := fun _ => if_pos (show 1 ≤ sizeLine by decide)
  have t0 : tupG [] = some (.tuple []) := if_pos (Nat.zero_le _)
  have tail : ∀ (u : Option Ti) (ys : List PyData) (m : Nat), FeedAt ys m → m < 700000 → (u = none ∨ ∃ c1 ∈ L, shortB L c1 = true ∧ u = some c1.tag) →
      ∃ (c : Cz) (xs' : List PyData) (b8 b9 : Option OD), Good20 (L ++ [c]) ∧ FeedAt xs' (m + 6) ∧ ∀ b6 : Option OD,
      m_case_tl [some (.ol ys), some (.sh (.list (F.map hd))), a2, a3, some (.sh (tiD t)), some (.sh (casesD L)), b6, some (.sh (unD u)), a8, a9, none] =
        .ok .nx [some (.ol xs'), some (.sh (.list (F.map hd))), a2, a3, some (.sh (tiD t)), some (.sh (casesD (L ++ [c]))), b6, some (.sh (unD u)), b8, b9, none] := by
    intro u ys m hy hm hu
    obtain ⟨G, ys1, gm, gl, g1, e1⟩ := few20 hy hm hF f1 f6
    obtain ⟨en, ys2, he, g2, e2⟩ := any20 (L := ends20) g1 (by omega) (by decide) (by decide)
    have tk := take1_20 G
    refine ⟨⟨t, u, G, en⟩, ys2, some (.sh (.tuple (G.map hd))), some (.sh en), hG.add ⟨gm, gl, he⟩ ht hu, g2.mono (by omega), fun b6 => ?_⟩
    have ad : aAdd (casesD L) (.tuple [czD ⟨t, u, G, en⟩]) = some (.sh (casesD (L ++ [⟨t, u, G, en⟩]))) := by
      unfold casesD
      rw [aAdd_tt (by rw [List.length_map, List.length_singleton]; omega), List.map_append]
      rfl
    have ec : PyData.tuple [tiD t, unD u, .tuple ((G.take 1).map hd), .tuple (G.map hd), .tuple [], .tuple [], en] = czD ⟨t, u, G, en⟩ := rfl
    unfold m_case_tl
    simp?! only [e1, e2, ends, tk, t0, t7, t1, ec, ad]
  by_cases h0 : (L.filter (shortB L)) = []
  · rw [h0] at es nn
    have es : mComp ((mName 5).bind seqItems) (tName 10) (m_causes_t3) (m_causes_e2) [10] [some (.ol xs), some (.sh (.list (F.map hd))), a2, a3, some (.sh (tiD t)), some (.sh (casesD L)), a6, a7, a8, a9, none] = .ok (.ol []) [some (.ol xs), some (.sh (.list (F.map hd))), a2, a3, some (.sh (tiD t)), some (.sh (casesD L)), a6, a7, a8, a9, none] := es
    have nn : gNe (.list []) (.list []) = some (.bool false) := nn
    obtain ⟨c, xs', b8, b9, g, f, e⟩ := tail none xs n hf (by omega) (.inl rfl)
    have e := e (some (.ol []))
    have e : m_case_tl [some (.ol xs), some (.sh (.list (F.map hd))), a2, a3, some (.sh (tiD t)), some (.sh (casesD L)), some (.ol []), some (.sh .none), a8, a9, none] = _ := e
    refine ⟨c, xs', some (.ol []), some (.sh .none), b8, b9, g, f.mono (by omega), ?_⟩
    refine Eq.trans ?_ e
    rw [case_eq]
    simp?! only [es, l0, nn]
  · have ne : ((L.filter (shortB L)).map fun c => tiD c.tag).isEmpty = false := by
      cases q : (L.filter (shortB L)) with
      | nil => exact absurd q h0
      | cons a b => rfl
    rw [ne] at nn
    have nn : gNe (.list ((L.filter (shortB L)).map fun c => tiD c.tag)) (.list []) = some (.bool true) := nn
    obtain ⟨v, xs1, v0, v1, f2, e2⟩ := draw20 (many := 3) hf (by omega) (by decide) (by decide)
    by_cases hv : 0 < v
    · have pos : 0 < ((L.filter (shortB L)).map fun c => tiD c.tag).length := by
        rw [List.length_map]
        exact List.length_pos_iff.mpr h0
      obtain ⟨d, xs2, hd', f3, e3⟩ := any20 (L := (L.filter (shortB L)).map fun c => tiD c.tag) f2 (by omega) pos (by rw [List.length_map]; omega)
      obtain ⟨c1, hc1, rfl⟩ := List.mem_map.mp hd'
      obtain ⟨m1, m2⟩ := List.mem_filter.mp hc1
      obtain ⟨c, xs', b8, b9, g, f, e⟩ := tail (some c1.tag) xs2 (n + 1 + 1) f3 (by omega) (.inr ⟨c1, m1, m2, rfl⟩)
      have e := e (some (.sh (.list ((L.filter (shortB L)).map fun c => tiD c.tag))))
      have e : m_case_tl [some (.ol xs2), some (.sh (.list (F.map hd))), a2, a3, some (.sh (tiD t)), some (.sh (casesD L)), some (.sh (.list ((L.filter (shortB L)).map fun c => tiD c.tag))), some (.sh (tiD c1.tag)), a8, a9, none] = _ := e
      refine ⟨c, xs', some (.sh (.list ((L.filter (shortB L)).map fun c => tiD c.tag))), some (.sh (tiD c1.tag)), b8, b9, g, f.mono (by omega), ?_⟩
      refine Eq.trans ?_ e
      rw [case_eq]
      simp?! only [es, l0, nn, e2, hv, e3]
    · obtain ⟨c, xs', b8, b9, g, f, e⟩ := tail none xs1 (n + 1) f2 (by omega) (.inl rfl)
      have e := e (some (.ol ((L.filter (shortB L)).map fun c => tiD c.tag)))
      have e : m_case_tl [some (.ol xs1), some (.sh (.list (F.map hd))), a2, a3, some (.sh (tiD t)), some (.sh (casesD L)), some (.ol ((L.filter (shortB L)).map fun c => tiD c.tag)), some (.sh .none), a8, a9, none] = _ := e
      refine ⟨c, xs', some (.ol ((L.filter (shortB L)).map fun c => tiD c.tag)), some (.sh .none), b8, b9, g, f.mono (by omega), ?_⟩
      refine Eq.trans ?_ e
      rw [case_eq]
      simp?! only [es, l0, nn, e2, hv]
end Lw
namespace Lw
open PySem L2 PySem.W PySem.SeqAt Eg
theorem causes20 {xs : List PyData} {n : Nat} {F : List Hand} (hf : FeedAt xs n) (hn : n < 500000) (hF : ∀ h ∈ F, h ∈ all20) (f1 : 1 ≤ F.length) (f6 : F.length ≤ 6) :
    ∃ (L : List Cz) (xs' : List PyData), Good20 L ∧ L.length ≤ 9 ∧ FeedAt xs' (n + 200) ∧ fn_causes [some (.ol xs), some (.sh (.list (F.map hd)))] = .ok (.sh (casesD L)) [some (.ol xs'), none] := by
  have z := sizeLine_eq
  obtain ⟨v, xs1, v0, v1, g1, e1⟩ := draw20 (many := 9) hf (by omega) (by decide) (by decide)
  have rg := rng1_natX (j := 1 + v) (by omega) (by omega)
  obtain ⟨ρ1, e2, xs2, T, b3, b4, rfl, hT, hl, g2⟩ := loop_inv (f := fun i : Nat => PyData.int (i : Int)) (t := tName 3) (b := m_causes_b1)
    (fun rest ρ => ∃ (xs : List PyData) (T : List Ti) (b3 b4 : Option OD), ρ = [some (.ol xs), some (.sh (.list (F.map hd))), some (.ol (T.map tiD)), b3, b4, none, none, none, none, none, none] ∧ (∀ t ∈ T, TiF t) ∧ T.length + rest.length ≤ (1 + v).toNat ∧ FeedAt xs (n + 1 + 3 * ((1 + v).toNat - rest.length))) (by
      rintro i rest ρ ⟨xs, T, b3, b4, rfl, hT, hl, g⟩
      rw [List.length_cons] at hl g
      obtain ⟨T', xs', b4', h1, h2, h3, h4⟩ := tag_step (T := T) (a1 := some (.sh (.list (F.map hd)))) (a3 := some (.sh (.int (i : Int)))) (a4 := b4) (a5 := none) (a6 := none) (a7 := none) (a8 := none) (a9 := none) (a10 := none) g (by omega) (by omega) hT
      exact ⟨_, _, rfl, .inl h4, xs', T', _, b4', rfl, h1, by omega, h3.mono (by omega)⟩) (List.range (1 + v).toNat) [some (.ol xs1), some (.sh (.list (F.map hd))), some (.ol []), none, none, none, none, none, none, none, none]
    ⟨xs1, [], none, none, rfl, (fun t h => nomatch h), by simp, g1.mono (by omega)⟩
  have hl : T.length ≤ 9 := by
    rw [List.length_nil] at hl
    omega
  obtain ⟨R, hR, rl, es⟩ := sorted_ti (l := T) (by omega)
  obtain ⟨ρ2, e3, xs3, L, b4', b6, b7, b8, b9, rfl, hG, ll, g3, _⟩ := loop_inv (f := tiD) (t := tName 4) (b := m_causes_b4)
    (fun rest ρ => ∃ (xs : List PyData) (L : List Cz) (b4 b6 b7 b8 b9 : Option OD), ρ = [some (.ol xs), some (.sh (.list (F.map hd))), some (.ol (T.map tiD)), b3, b4, some (.sh (casesD L)), b6, b7, b8, b9, none] ∧ Good20 L ∧ L.length + rest.length = R.length ∧ FeedAt xs (n + 40 + 10 * L.length) ∧ ∀ t ∈ rest, TiF t) (by
      rintro t rest ρ ⟨xs, L, b4, b6, b7, b8, b9, rfl, hG, ll, g, ht⟩
      rw [List.length_cons] at ll
      obtain ⟨c, xs', c6, c7, c8, c9, h1, h2, h3⟩ := case_step (L := L) (F := F) (t := t) (a2 := some (.ol (T.map tiD))) (a3 := b3) (a6 := b6) (a7 := b7) (a8 := b8) (a9 := b9) g (by omega) hG (by omega) (ht t List.mem_cons_self) hF f1 f6
      exact ⟨_, _, rfl, .inl h3, xs', L ++ [c], _, c6, c7, c8, c9, rfl, h1, by rw [List.length_append, List.length_singleton]; omega, h2.mono (by rw [List.length_append, List.length_singleton]; omega), fun s hs => ht s (List.mem_cons_of_mem _ hs)⟩) R [some (.ol xs2), some (.sh (.list (F.map hd))), some (.ol (T.map tiD)), b3, b4, some (.sh (casesD [])), none, none, none, none, none]
    ⟨xs2, [], b4, none, none, none, none, rfl, ⟨(fun c h => nomatch h), (fun c h => nomatch h), (fun c h => nomatch h), (fun c h => nomatch h)⟩, by simp, g2.mono (by rw [List.length_nil, List.length_nil]; omega), fun t ht => hT t (hR t ht)⟩
  have ll : L.length ≤ 9 := by
    rw [List.length_nil] at ll
    omega
  have l0 : lstG [] = some (.ol []) := lstG_ok (by decide)
  have t0 : tupG [] = some (casesD []) := if_pos (Nat.zero_le _)
  refine ⟨L, xs3, hG, ll, g3.mono (by omega), ?_⟩
  unfold fn_causes m_causes
  simp?! only [l0, e1, rg, e2, t0, es, e3]
section
variable {caps : List (Nat × PyData)} {nC : Nat} {mb : M OD} {t : Ti} {ρ' : Rho}
theorem said20_no (h : mb (capR nC caps) = .ex (noName t) ρ') : ∃ ρ2, m_said_2 nC mb [some (.lam caps), none, none, none, none, none] = .ok (.rt (.sh (.tuple [.str (Str.ofString "name"), tiD t]))) ρ2 := by
  have e : ∀ {a1 a2 a3 a4 a5 : Option OD}, mAsk 0 nC mb [some (.lam caps), a1, a2, a3, a4, a5] = .ex (noName t) [some (.lam caps), a1, a2, a3, a4, a5] := fun {a1 a2 a3 a4 a5} => by
    show (match mb (capR nC caps) with | .ok (.sh d) _ => Res.ok (OD.sh d) [some (.lam caps), a1, a2, a3, a4, a5] | .ex x _ => .ex x [some (.lam caps), a1, a2, a3, a4, a5] | _ => .bad) = _
    rw [h]
  let EN : Option OD := some (.en (Str.ofString "NoName") [(Str.ofString "name", tiD t)])
  have l3 : lstG [.bool false, .bool false, .bool false] = some (.ol [.bool false, .bool false, .bool false]) := lstG_ok (by decide)
  have l2 : lstG [.bool true, .bool false] = some (.ol [.bool true, .bool false]) := lstG_ok (by decide)
  have ad : aAdd (.list [.bool false, .bool false, .bool false]) (.list [.bool true, .bool false]) = some (.ol [.bool false, .bool false, .bool false, .bool true, .bool false]) := rfl
  have cn : ∀ ρ, cntO (some (some (.ol [.bool false, .bool false, .bool false, .bool true, .bool false]))) (.bool true) ρ = .ok (.int 1) ρ := fun ρ => by
    rw [v_cntO (by decide +kernel)]
    rfl
  have is : ∀ {a0 a1 a2 a3 a4 : Option OD} (sub : Str → Bool), mIsE 5 [Str.ofString "NoName"] sub [a0, a1, a2, a3, a4, some (.en (Str.ofString "NoName") [(Str.ofString "name", tiD t)])] = .ok (.bool (sub (Str.ofString "NoName"))) [a0, a1, a2, a3, a4, some (.en (Str.ofString "NoName") [(Str.ofString "name", tiD t)])] := fun sub => v_isE 5 _ sub rfl (List.mem_singleton.mpr rfl)
  have nd : ([(Str.ofString "name", tiD t)].map (·.1)).Nodup := (show [Str.ofString "name"].Nodup by decide +kernel)
  have f1 : ∀ ρ, fldO (some (some (.en (Str.ofString "NoName") [(Str.ofString "name", tiD t)]))) [Str.ofString "NoName"] (Str.ofString "name") ρ = .ok (tiD t) ρ := fun ρ => by
    rw [v_fldO (List.mem_singleton.mpr rfl) nd]; rfl
  have g0 : gIx (.list [.bool false, .bool false, .bool false, .bool true, .bool false]) (.int 0) = some (.bool false) := rfl
  have g1 : gIx (.list [.bool false, .bool false, .bool false, .bool true, .bool false]) (.int 1) = some (.bool false) := rfl
  have g2 : gIx (.list [.bool false, .bool false, .bool false, .bool true, .bool false]) (.int 2) = some (.bool false) := rfl
  have g3 : gIx (.list [.bool false, .bool false, .bool false, .bool true, .bool false]) (.int 3) = some (.bool true) := rfl
  have sl : gSl (.list [.bool false, .bool false, .bool false, .bool true, .bool false]) none (some 3) = some (.ol [.bool false, .bool false, .bool false]) := rfl
  have gi : gIn (.bool true) (.list [.bool false, .bool false, .bool false]) = some (.bool false) := rfl
  have gb : gEq (.bool false) (.bool false) = some (.bool true) := rfl
  have y1 : decide ((Str.ofString "NoName") ∈ ([Str.ofString "NoName"] : List Str)) = true := decide_eq_true (List.mem_singleton.mpr rfl)
  have y0 : decide ((Str.ofString "NoName") ∈ ([] : List Str)) = false := rfl
  have t2 : ∀ a b : PyData, tupG [a, b] = some (.tuple [a, b]) := fun _ _ => if_pos (show 2 ≤ sizeLine by decide)
  have eb : m_said_2_y1 nC mb [some (.lam caps), some (.sh (.tuple [.str (Str.ofString "odd"), .none])), none, none, none, none] = .ex (noName t) [some (.lam caps), some (.sh (.tuple [.str (Str.ofString "odd"), .none])), none, none, none, none] := by
    unfold m_said_2_y1
    simp?! only [e, go_ex]
  have es : m_said_2_x2 nC mb [none, some (.sh (.tuple [.str (Str.ofString "odd"), .none])), none, none, none, some (.en (Str.ofString "NoName") [(Str.ofString "name", tiD t)])] = .ok .nx [none, some (.sh (.tuple [.str (Str.ofString "name"), tiD t])), some (.ol [.bool false, .bool false, .bool false, .bool true, .bool false]), some (.sh (.bool false)), some (.sh (.bool true)), some (.en (Str.ofString "NoName") [(Str.ofString "name", tiD t)])] := by
    unfold m_said_2_x2
    simp?! only [is, y1, y0, l3, l2, ad, v_count, cn, sl, gi, gb, g0, g1, g2, g3, v_fld, f1, t2]
  refine ⟨[none, none, some (.ol [.bool false, .bool false, .bool false, .bool true, .bool false]), some (.sh (.bool false)), some (.sh (.bool true)), none], ?_⟩
  have et : tryAsK 5 (fun _ => true) (mClr (m_said_2_x2 nC mb)) (.ex (noName t) [some (.lam caps), some (.sh (.tuple [.str (Str.ofString "odd"), .none])), none, none, none, none]) = .ok .nx [none, some (.sh (.tuple [.str (Str.ofString "name"), tiD t])), some (.ol [.bool false, .bool false, .bool false, .bool true, .bool false]), some (.sh (.bool false)), some (.sh (.bool true)), none] := by
    rw [v_tryAsx, if_pos rfl]
    show endAs 5 (m_said_2_x2 nC mb [none, some (.sh (.tuple [.str (Str.ofString "odd"), .none])), none, none, none, some (.en (Str.ofString "NoName") [(Str.ofString "name", tiD t)])]) = _
    rw [es]
    rfl
  unfold m_said_2
  simp?! only [v_tryAs, eb, et, t2]
theorem lam20 {is : List Nat} {ρ : Rho} (hc : capsOf ρ is = some caps) (h : mb (capR nC caps) = .ex (noName t) ρ') : mLam is (m_said_2 nC mb) 5 ρ = .ok (.sh (.tuple [.str (Str.ofString "name"), tiD t])) ρ := by
  obtain ⟨ρ2, e⟩ := said20_no h
  unfold mLam
  rw [hc]
  show (match m_said_2 nC mb [some (.lam caps), none, none, none, none, none] with | .ok (.rt (.sh d)) _ => Res.ok (OD.sh d) ρ | _ => .bad) = _
  rw [e]
end
end Lw
namespace Lw
open PySem L2 PySem.W PySem.SeqAt Eg
theorem names20_th : ∀ o ∈ names20, thB 40 16 0 (.str o) = true := by decide +kernel
theorem TiF.th {t : Ti} (h : TiF t) : Th 40 40 1 (tiD t) := by
  have h1 := Th.ofB (names20_th _ h.o) (show 40 ≤ 400 by decide)
  have h2 : Th 40 3 0 (.int t.2.1) := Th.int (m := 40) (n := 2) (by have := h.a0; have := h.a1; omega) (by decide) (by decide)
  have h3 : Th 40 3 0 (.int t.2.2) := Th.int (m := 40) (n := 2) (by have := h.b0; have := h.b1; omega) (by decide) (by decide)
  exact (Ths.cons h1 (Ths.cons h2 (Ths.cons h3 (Ths.nil (n := 0) (by decide))))).tup.mono (by omega) (by omega)
theorem hds_th {l : List Hand} (h : ∀ x ∈ l, x ∈ all20) : Th 40 (l.length * 42 + 3) 2 (.tuple (l.map hd)) := by
  have := Ths.all (q := 40) (n := 40) (k := 1) (by decide) (ds := l.map hd) fun d hd' => by
    obtain ⟨x, hx, rfl⟩ := List.mem_map.mp hd'
    exact Th.ofB (all20_th x (h x hx)) (by decide)
  rw [List.length_map] at this
  exact this.tup
theorem cz_th {c : Cz} (hf : CzF c) (ht : TiF c.tag) (hu : ∀ s, c.under = some s → TiF s) : Th 40 500 3 (czD c) := by
  have a : Th 40 40 2 (tiD c.tag) := ht.th.mono (by omega) (by omega)
  have b : Th 40 40 2 (unD c.under) := by
    cases e : c.under with
    | none => exact (Th.none (m := 40) (by decide)).mono (by omega) (by omega)
    | some s => exact (hu s e).th.mono (by omega) (by omega)
  have d1 : Th 40 45 2 (.tuple ((c.vs.take 1).map hd)) := (hds_th (l := c.vs.take 1) fun x hx => hf.vs x (List.mem_of_mem_take hx)).mono (by
    have := List.length_take_le 1 c.vs
    omega) (by omega)
  have d2 : Th 40 129 2 (.tuple (c.vs.map hd)) := (hds_th hf.vs).mono (by have := hf.vl; omega) (by omega)
  have d0 : Th 40 3 2 (.tuple []) := (Ths.tup (Ths.nil (m := 40) (n := 0) (k := 1) (by decide))).mono (by omega) (by omega)
  have e : Th 40 20 2 c.en := (Th.ofB (ends_th _ hf.en) (show 40 ≤ 400 by decide)).mono (by omega) (by omega)
  exact (Ths.cons a (Ths.cons b (Ths.cons d1 (Ths.cons d2 (Ths.cons d0 (Ths.cons d0 (Ths.cons e (Ths.nil (n := 0) (by decide))))))))).tup.mono (by omega) (by omega)
theorem cases_th {L : List Cz} (h : Good20 L) (hl : L.length ≤ 9) : Th 40 5000 4 (casesD L) := by
  have := Ths.all (q := 40) (n := 500) (k := 3) (by decide) (ds := L.map czD) fun d hd' => by
    obtain ⟨c, hc, rfl⟩ := List.mem_map.mp hd'
    exact cz_th (h.f c hc) (h.t c hc) (h.u c hc)
  rw [List.length_map] at this
  exact this.tup.mono (by omega) (by omega)
theorem heads_mem {l : List Hand} {d : PyData} (h : d ∈ heads l) : ∃ x ∈ l, d = hd x := by
  have := once_mem (List.mem_mergeSort.mp h)
  obtain ⟨x, hx, e⟩ := List.mem_map.mp this
  exact ⟨x, hx, e.symm⟩
theorem heads_len (l : List Hand) : (heads l).length ≤ l.length := by
  have h2 : (heads l).length = (once (l.map hd)).length := (List.mergeSort_perm _ _).length_eq
  have h3 : ∀ ds : List PyData, (once ds).length ≤ ds.length := fun ds => by
    induction ds with
    | nil => exact Nat.zero_le _
    | cons d ds ih =>
      simp only [once, List.length_cons]
      have := List.length_filter_le (fun e => !decide (nk e = nk d)) (once ds)
      omega
  have := h3 (l.map hd)
  rw [List.length_map] at this
  omega
theorem heads_th {l : List Hand} (h : ∀ x ∈ l, x ∈ all20) (hl : l.length ≤ 12) : Th 40 520 2 (.tuple (heads l)) := by
  have := Ths.all (q := 40) (n := 40) (k := 1) (by decide) (ds := heads l) fun d hd' => by
    obtain ⟨x, hx, rfl⟩ := heads_mem hd'
    exact Th.ofB (all20_th x (h x hx)) (by decide)
  have hh := heads_len l
  exact this.tup.mono (by omega) (by omega)
section
variable {L : List Cz} {w : List Cz} {t : Ti}
theorem way_th (h : Good20 L) (hw : ∀ c ∈ w, c ∈ L) (hl : w.length ≤ 4) : Th 40 180 2 (.tuple (wayD w)) := by
  have := Ths.all (q := 40) (n := 40) (k := 1) (by decide) (ds := wayD w) fun d hd' => by
    obtain ⟨x, hx, rfl⟩ := List.mem_map.mp hd'
    exact (h.t x (hw x hx)).th
  have e : (wayD w).length = w.length := List.length_map _
  rw [e] at this
  exact this.tup.mono (by omega) (by omega)
theorem voices_len (h : Good20 L) : ∀ (w : List Cz), (∀ c ∈ w, c ∈ L) → (voices w).length ≤ 3 * w.length
  | [], _ => Nat.zero_le _
  | c :: w, hw => by
    have e : voices (c :: w) = c.vs ++ voices w := rfl
    have := voices_len h w fun d hd => hw d (List.mem_cons_of_mem _ hd)
    have := (h.f c (hw c List.mem_cons_self)).vl
    rw [e, List.length_append, List.length_cons]
    omega
theorem voices_mem (h : Good20 L) (hw : ∀ c ∈ w, c ∈ L) : ∀ x ∈ voices w, x ∈ all20 := fun x hx => by
  obtain ⟨c, hc, hx⟩ := List.mem_flatMap.mp hx
  exact (h.f c (hw c hc)).vs x hx
theorem last20 {ds : List PyData} {d : PyData} : gIx (.list (ds ++ [d])) (.int (-1)) = some d ∧ gIx (.tuple (ds ++ [d])) (.int (-1)) = some d := by
  have h := ix_last (ds := ds ++ [d]) (d := d) (by simp)
  exact ⟨h, h⟩
theorem cause_turn {a0 a1 a2 a3 a6 a7 a8 a9 a10 a11 a12 : Option OD} {c : Cz} (h : Good20 L) (hl : L.length ≤ 9) (hc : c ∈ L) :
    ∃ b7 b8 b9 b10 b11, m_law_k20_b1 [a0, a1, a2, a3, some (.sh (casesD L)), some (.sh (.str (casesD L).shown)), some (.sh (czD c)), a7, a8, a9, a10, a11, a12] = .ok .nx [a0, a1, a2, a3, some (.sh (casesD L)), some (.sh (.str (casesD L).shown)), some (.sh (czD c)), b7, b8, b9, b10, b11, a12] := by
  have z := sizeLine_eq
  obtain ⟨w, w1, w2⟩ := h.w c hc
  have wm := w1.mem
  have hwL : ∀ c ∈ w, c ∈ L := fun d hd => (wm d hd).1
  have vl := voices_len h w hwL
  have vm := voices_mem h hwL
  have e1 := way20 h.f (by omega) w1 (by omega)
  have e2 := heads20 h.f (by omega) w1 (by omega) (by omega)
  have e3 := path20 w1 (by omega)
  have e5 := voices20 w1 (by omega) (by omega)
  obtain ⟨ws, d, ew⟩ : ∃ ws d, wayD w = ws ++ [d] := by
    have ne : wayD w ≠ [] := by cases w1 with | cons _ _ => simp [wayD]
    rcases List.eq_nil_or_concat (wayD w) with q | ⟨ws, d, q⟩
    · exact absurd q ne
    · exact ⟨ws, d, by rw [q, List.concat_eq_append]⟩
  have lx := last20 (ds := ws) (d := d)
  rw [← ew] at lx
  have e4 := root20 w1 (by omega) lx.2
  have dm : d ∈ wayD w := by rw [ew]; exact List.mem_append.mpr (.inr List.mem_cons_self)
  obtain ⟨cd, hcd, rfl⟩ := List.mem_map.mp dm
  have td : Th 40 40 2 (tiD cd.tag) := ((h.t cd (hwL cd hcd)).th).mono (by omega) (by omega)
  have tw := way_th h hwL w2
  have thd := heads_th vm (by omega)
  have tD : Th 40 800 3 (.list [.tuple (wayD w), tiD cd.tag, .tuple (heads (voices w))]) := (Ths.cons tw (Ths.cons td (Ths.cons thd (Ths.nil (n := 0) (by decide))))).lst.mono (by omega) (by omega)
  have rD := rep_th tD (by omega) (by omega)
  have rC := rep_th (cases_th h hl) (by omega) (by omega)
  have t3 : ∀ a b c : PyData, tupG [a, b, c] = some (.tuple [a, b, c]) := fun _ _ _ => if_pos (show 3 ≤ sizeLine by decide)
  have l3 : ∀ a b c : PyData, lstG [a, b, c] = some (.ol [a, b, c]) := fun _ _ _ => if_pos (show 3 ≤ sizeLine by decide)
  have l2 : ∀ a b : PyData, lstG [a, b] = some (.ol [a, b]) := fun _ _ => if_pos (show 2 ≤ sizeLine by decide)
  have l1 : ∀ a : PyData, lstG [a] = some (.ol [a]) := fun _ => if_pos (show 1 ≤ sizeLine by decide)
  have ad : ∀ a b c : PyData, aAdd (.list [a, b]) (.list [c]) = some (.ol [a, b, c]) := fun a b c => aAdd_ll (by show 2 + 1 ≤ _; omega)
  have g0 := gIx_cz0 c
  have q1 := gNe_strR (PyData.list [.tuple (wayD w), tiD cd.tag, .tuple (heads (voices w))]).shown
  have q2 := gNe_strR (casesD L).shown
  have et : ∀ {a0 a1 a2 a3 a4 a5 a6 a7 a8 a9 a10 a11 a12 : Option OD} {x y z : PyData}, tTup [tName 7, tName 8, tName 9] (.tuple [x, y, z]) [a0, a1, a2, a3, a4, a5, a6, a7, a8, a9, a10, a11, a12] = some [a0, a1, a2, a3, a4, a5, a6, some (.sh x), some (.sh y), some (.sh z), a10, a11, a12] := rfl
  refine ⟨some (.sh (tiD c.tag)), some (.sh (.list (wayD w))), some (.sh (.list (heads (voices w)))), some (.sh (.str (PyData.list [.tuple (wayD w), tiD cd.tag, .tuple (heads (voices w))]).shown)), some (.ol [.tuple (wayD w), tiD cd.tag]), ?_⟩
  unfold m_law_k20_b1
  simp?! only [g0, e1, e2, t3, et, gTup_l, lx.1, l3, rD, e3, e4, e5, q1, l2, l1, ad, rC, q2, v_pick, v_pk0, v_pkl, v_pkr, List.getD_cons_zero]
end
end Lw
namespace Lw
open PySem L2 PySem.W PySem.SeqAt Eg
theorem v_lf {i : Nat} {b : M Out} {nm : Str} {r : List Str} {ρ ρ2 : Rho} (h : b (ρ.set i (some (.fn nm))) = .ok .nx ρ2) : sLoopF i b (nm :: r) ρ = sLoopF i b r ρ2 := by
  show (b.bind fun o => match o with
      | .nx => sLoopF i b r
      | .ct => sLoopF i b r
      | .bk => M.ret .nx
      | .rt r => M.ret (.rt r)) (ρ.set i (some (.fn nm))) = _
  unfold M.bind
  rw [h]
section
variable {L : List Cz} {t : Ti} {a0 a1 a2 a3 a5 a6 a7 a8 a9 a10 a11 a12 : Option OD}
theorem no_find (h : Good20 L) (ht : ¬ TiF t) : findC L t = none := by
  cases e : findC L t with
  | none => rfl
  | some c =>
    have := h.t c (findC_mem e)
    rw [findC_tag e] at this
    exact absurd this ht
theorem cap20 : capR 13 [(4, casesD L), (7, tiD t)] = [none, none, none, none, some (.sh (casesD L)), none, none, some (.sh (tiD t)), none, none, none, none, none] := rfl
theorem l4_20 (h : findC L t = none) : m_law_k20_l4 (capR 13 [(4, casesD L), (7, tiD t)]) = .ex (noName t) [none, none, none, none, some (.sh (casesD L)), none, none, some (.sh (tiD t)), none, none, none, none, none] := by
  have e := path20_no h
  rw [cap20]
  unfold m_law_k20_l4
  simp?! only [e]
  rfl
theorem l3_20 (h : findC L t = none) : m_law_k20_l3 (capR 13 [(4, casesD L), (7, tiD t)]) = .ex (noName t) [none, none, none, none, some (.sh (casesD L)), none, none, some (.sh (tiD t)), none, none, none, none, none] := by
  have e := root20_no h
  rw [cap20]
  unfold m_law_k20_l3
  simp?! only [e]
  rfl
theorem l2_20 (h : findC L t = none) : m_law_k20_l2 (capR 13 [(4, casesD L), (7, tiD t)]) = .ex (noName t) [none, none, none, none, some (.sh (casesD L)), none, none, some (.sh (tiD t)), none, none, none, none, none] := by
  have e := voices20_no h
  rw [cap20]
  unfold m_law_k20_l2
  simp?! only [e]
  rfl
theorem ask_b5 {nm : Str} {mb : M OD} {ρ' : Rho} (hn : ([("path_of", m_said_2 13 (m_law_k20_l4)), ("root_of", m_said_2 13 (m_law_k20_l3)), ("path_voices", m_said_2 13 (m_law_k20_l2))] : List (Str × M Out)).lookup nm = some (m_said_2 13 mb)) (hm : mb (capR 13 [(4, casesD L), (7, tiD t)]) = .ex (noName t) ρ') (hT : Th 40 60 2 (.tuple [.str (Str.ofString "name"), tiD t])) :
    m_law_k20_b5 [a0, a1, a2, a3, some (.sh (casesD L)), a5, a6, some (.sh (tiD t)), a8, a9, a10, a11, some (.fn nm)] = .ok .nx [a0, a1, a2, a3, some (.sh (casesD L)), a5, a6, some (.sh (tiD t)), a8, a9, a10, a11, some (.fn nm)] := by
  have e : mLamF 12 [4, 7] [("path_of", m_said_2 13 (m_law_k20_l4)), ("root_of", m_said_2 13 (m_law_k20_l3)), ("path_voices", m_said_2 13 (m_law_k20_l2))] 5 [a0, a1, a2, a3, some (.sh (casesD L)), a5, a6, some (.sh (tiD t)), a8, a9, a10, a11, some (.fn nm)] = .ok (.sh (.tuple [.str (Str.ofString "name"), tiD t])) [a0, a1, a2, a3, some (.sh (casesD L)), a5, a6, some (.sh (tiD t)), a8, a9, a10, a11, some (.fn nm)] := by
    show (match ([("path_of", m_said_2 13 (m_law_k20_l4)), ("root_of", m_said_2 13 (m_law_k20_l3)), ("path_voices", m_said_2 13 (m_law_k20_l2))] : List (Str × M Out)).lookup nm with | some m => mLam [4, 7] m 5 _ | none => .bad) = _
    rw [hn]
    exact lam20 (caps := [(4, casesD L), (7, tiD t)]) rfl hm
  have r := rep_th hT (by omega) (by omega)
  have q := gNe_strR (PyData.tuple [.str (Str.ofString "name"), tiD t]).shown
  have t2 : ∀ a b : PyData, tupG [a, b] = some (.tuple [a, b]) := fun _ _ => if_pos (show 2 ≤ sizeLine by decide)
  unfold m_law_k20_b5
  simp?! only [e, r, t2, q]
theorem ask_b6 (h : Good20 L) (ht : ¬ TiF t) (hT : Th 40 60 2 (.tuple [.str (Str.ofString "name"), tiD t])) :
    m_law_k20_b6 [a0, a1, a2, a3, some (.sh (casesD L)), a5, a6, some (.sh (tiD t)), a8, a9, a10, a11, a12] = .ok .nx [a0, a1, a2, a3, some (.sh (casesD L)), a5, a6, some (.sh (tiD t)), a8, a9, a10, a11, some (.fn "path_voices")] := by
  have nf := no_find h ht
  unfold m_law_k20_b6
  rw [v_lf (ρ2 := [a0, a1, a2, a3, some (.sh (casesD L)), a5, a6, some (.sh (tiD t)), a8, a9, a10, a11, some (.fn "path_of")]) (ask_b5 (nm := "path_of") (mb := m_law_k20_l4) rfl (l4_20 nf) hT),
    v_lf (ρ2 := [a0, a1, a2, a3, some (.sh (casesD L)), a5, a6, some (.sh (tiD t)), a8, a9, a10, a11, some (.fn "root_of")]) (ask_b5 (nm := "root_of") (mb := m_law_k20_l3) rfl (l3_20 nf) hT),
    v_lf (ρ2 := [a0, a1, a2, a3, some (.sh (casesD L)), a5, a6, some (.sh (tiD t)), a8, a9, a10, a11, some (.fn "path_voices")]) (ask_b5 (nm := "path_voices") (mb := m_law_k20_l2) rfl (l2_20 nf) hT)]
  rfl
def tA : Ti := (Str.ofString "ash", 0, 9)
def tN : Ti := (Str.ofString "nowhere", 0, 0)
def tE : Ti := (Str.ofString "elm", 3, 0)
theorem not_tA : ¬ TiF tA := fun h => by have := h.b1; exact absurd this (by decide)
theorem not_tN : ¬ TiF tN := fun h => by have := h.o; exact absurd this (by decide +kernel)
theorem not_tE : ¬ TiF tE := fun h => by have := h.a1; exact absurd this (by decide)
theorem asks (h : Good20 L) : ∃ b7 b12, sLoop (tName 7) m_law_k20_b6 [tiD tA, tiD tN, tiD tE] [a0, a1, a2, a3, some (.sh (casesD L)), a5, a6, a7, a8, a9, a10, a11, a12] = .ok .nx [a0, a1, a2, a3, some (.sh (casesD L)), a5, a6, b7, a8, a9, a10, a11, b12] := by
  have tn : ∀ {a0 a1 a2 a3 a4 a5 a6 a7 a8 a9 a10 a11 a12 : Option OD} {d : PyData}, tName 7 d [a0, a1, a2, a3, a4, a5, a6, a7, a8, a9, a10, a11, a12] = some [a0, a1, a2, a3, a4, a5, a6, some (.sh d), a8, a9, a10, a11, a12] := rfl
  have e1 := fun {c12 : Option OD} => ask_b6 (a0 := a0) (a1 := a1) (a2 := a2) (a3 := a3) (a5 := a5) (a6 := a6) (a8 := a8) (a9 := a9) (a10 := a10) (a11 := a11) (a12 := c12) h not_tA (Th.ofB (by decide +kernel) (by decide))
  have e2 := fun {c12 : Option OD} => ask_b6 (a0 := a0) (a1 := a1) (a2 := a2) (a3 := a3) (a5 := a5) (a6 := a6) (a8 := a8) (a9 := a9) (a10 := a10) (a11 := a11) (a12 := c12) h not_tN (Th.ofB (by decide +kernel) (by decide))
  have e3 := fun {c12 : Option OD} => ask_b6 (a0 := a0) (a1 := a1) (a2 := a2) (a3 := a3) (a5 := a5) (a6 := a6) (a8 := a8) (a9 := a9) (a10 := a10) (a11 := a11) (a12 := c12) h not_tE (Th.ofB (by decide +kernel) (by decide))
  refine ⟨some (.sh (tiD tE)), some (.fn "path_voices"), ?_⟩
  simp?! only [v_lp1, tn, e1, e2, e3, v_lpO, v_lpn, v_lp0]
theorem causes_loop (h : Good20 L) (hl : L.length ≤ 9) : ∃ b6 b7 b8 b9 b10 b11, sLoop (tName 6) m_law_k20_b1 (L.map czD) [a0, a1, a2, a3, some (.sh (casesD L)), some (.sh (.str (casesD L).shown)), a6, a7, a8, a9, a10, a11, a12] = .ok .nx [a0, a1, a2, a3, some (.sh (casesD L)), some (.sh (.str (casesD L).shown)), b6, b7, b8, b9, b10, b11, a12] := by
  obtain ⟨ρ', e, b6, b7, b8, b9, b10, b11, rfl, _⟩ := loop_inv (f := czD) (t := tName 6) (b := m_law_k20_b1)
    (fun rest ρ => ∃ b6 b7 b8 b9 b10 b11, ρ = [a0, a1, a2, a3, some (.sh (casesD L)), some (.sh (.str (casesD L).shown)), b6, b7, b8, b9, b10, b11, a12] ∧ ∀ c ∈ rest, c ∈ L) (by
      rintro c rest ρ ⟨b6, b7, b8, b9, b10, b11, rfl, hr⟩
      obtain ⟨c7, c8, c9, c10, c11, e⟩ := cause_turn (a0 := a0) (a1 := a1) (a2 := a2) (a3 := a3) (a6 := b6) (a7 := b7) (a8 := b8) (a9 := b9) (a10 := b10) (a11 := b11) (a12 := a12) h hl (hr c List.mem_cons_self)
      exact ⟨_, _, rfl, .inl e, some (.sh (czD c)), c7, c8, c9, c10, c11, rfl, fun d hd => hr d (List.mem_cons_of_mem _ hd)⟩) L [a0, a1, a2, a3, some (.sh (casesD L)), some (.sh (.str (casesD L).shown)), a6, a7, a8, a9, a10, a11, a12] ⟨a6, a7, a8, a9, a10, a11, rfl, fun c hc => hc⟩
  exact ⟨b6, b7, b8, b9, b10, b11, e⟩
end
theorem turn20 {xs : List PyData} {n : Nat} {a0 a2 a3 a4 a5 a6 a7 a8 a9 a10 a11 a12 : Option OD} (hf : FeedAt xs n) (hn : n < 300000) :
    ∃ xs' r, r.length = 10 ∧ FeedAt xs' (n + 300) ∧ m_law_k20_b7 [a0, some (.ol xs), a2, a3, a4, a5, a6, a7, a8, a9, a10, a11, a12] = .ok .nx (a0 :: some (.ol xs') :: a2 :: r) := by
  have z := sizeLine_eq
  obtain ⟨k, a, b, c, xs1, k1, k4, f1, e1⟩ := charter20 hf (by omega)
  obtain ⟨F, xs2, hF, l2, l6, f2, e2⟩ := folk20 (a := a) (b := b) (c := c) f1 (by omega) k1 k4
  obtain ⟨L, xs3, hG, hl, f3, e3⟩ := causes20 f2 (by omega) hF (by omega) l6
  have rC := rep_th (cases_th hG hl) (by omega) (by omega)
  obtain ⟨b6, b7, b8, b9, b10, b11, e4⟩ := causes_loop (L := L) (a0 := a0) (a1 := some (.ol xs3)) (a2 := a2) (a3 := some (.sh (.tuple [.tuple ((towns20.take k).map .str), a, b, c]))) (a6 := a6) (a7 := a7) (a8 := a8) (a9 := a9) (a10 := a10) (a11 := a11) (a12 := a12) hG hl
  obtain ⟨c7, c12, e5⟩ := asks (L := L) (a0 := a0) (a1 := some (.ol xs3)) (a2 := a2) (a3 := some (.sh (.tuple [.tuple ((towns20.take k).map .str), a, b, c]))) (a5 := some (.sh (.str (casesD L).shown))) (a6 := b6) (a7 := b7) (a8 := b8) (a9 := b9) (a10 := b10) (a11 := b11) (a12 := a12) hG
  have t3 : ∀ a b c : PyData, tupG [a, b, c] = some (.tuple [a, b, c]) := fun _ _ _ => if_pos (show 3 ≤ sizeLine by decide)
  have sq : seqItems (casesD L) = M.ret (L.map czD) := rfl
  have uA : PyData.tuple [.str (Str.ofString "ash"), .int 0, .int 9] = tiD tA := rfl
  have uN : PyData.tuple [.str (Str.ofString "nowhere"), .int 0, .int 0] = tiD tN := rfl
  have uE : PyData.tuple [.str (Str.ofString "elm"), .int 3, .int 0] = tiD tE := rfl
  refine ⟨xs3, [some (.sh (.tuple [.tuple ((towns20.take k).map .str), a, b, c])), some (.sh (casesD L)), some (.sh (.str (casesD L).shown)), b6, c7, b8, b9, b10, b11, c12], rfl, f3.mono (by omega), ?_⟩
  unfold m_law_k20_b7
  simp?! only [e1, e2, e3, rC, sq, e4, t3, uA, uN, uE, e5]
theorem law_k20_true (ns : List Int) (h : ns.length ≤ 63) : ∃ ρ, fnM 12 [false] m_law_k20 [some (.sc ns)] = .ok (.sh (.bool true)) ρ := by
  obtain ⟨xs0, f0, e0⟩ := feed20 ns
  obtain ⟨ρ', e, xs', o2, r, hr, _, _, rfl⟩ := loop_inv (f := fun i : Nat => PyData.int (i : Int)) (t := tName 2) (b := m_law_k20_b7) (fun rest ρ => ∃ (xs : List PyData) (o2 : Option OD) (r : Rho), r.length = 10 ∧ FeedAt xs (1500 - 300 * rest.length) ∧ rest.length ≤ 5 ∧ ρ = some (.sc ns) :: some (.ol xs) :: o2 :: r) (by
    rintro x rest ρ ⟨xs, o2, r, hr, ht, hl, rfl⟩
    rw [List.length_cons] at ht hl
    match r, hr with
    | [a3, a4, a5, a6, a7, a8, a9, a10, a11, a12], _ =>
      obtain ⟨xs2, r2, hr2, t2, e2⟩ := turn20 (a0 := some (.sc ns)) (a2 := some (.sh (.int (x : Int)))) (a3 := a3) (a4 := a4) (a5 := a5) (a6 := a6) (a7 := a7) (a8 := a8) (a9 := a9) (a10 := a10) (a11 := a11) (a12 := a12) ht (by omega)
      exact ⟨_, _, rfl, .inl e2, xs2, _, r2, hr2, t2.mono (by omega), by omega, rfl⟩) (List.range 5) [some (.sc ns), some (.ol xs0), none, none, none, none, none, none, none, none, none, none, none]
    ⟨xs0, none, [none, none, none, none, none, none, none, none, none, none], rfl, f0.mono (by rw [List.length_range]; omega), by decide, rfl⟩
  have rg : rng1 [.int 5] = some ((List.range 5).map fun i : Nat => PyData.int (i : Int)) := rng1_any (by decide) (by decide)
  have t2 : ∀ a b : PyData, tupG [a, b] = some (.tuple [a, b]) := fun _ _ => if_pos (show 2 ≤ sizeLine by decide)
  have t3 : ∀ a b c : PyData, tupG [a, b, c] = some (.tuple [a, b, c]) := fun _ _ _ => if_pos (show 3 ≤ sizeLine by decide)
  have t0 : tupG [] = some (.tuple []) := if_pos (Nat.zero_le _)
  have ep := path20_no (L := []) (t := (Str.ofString "ash", 0, 0)) rfl
  have ep : fn_path_of_2 [some (.sh (.tuple [])), some (.sh (.tuple [.str (Str.ofString "ash"), .int 0, .int 0]))] = .ex (noName (Str.ofString "ash", 0, 0)) [none, none] := ep
  have l8 : m_law_k20_l8 (capR 13 []) = .ex (noName (Str.ofString "ash", 0, 0)) [none, none, none, none, none, none, none, none, none, none, none, none, none] := by
    have ec : capR 13 [] = [none, none, none, none, none, none, none, none, none, none, none, none, none] := rfl
    rw [ec]
    unfold m_law_k20_l8
    simp?! only [t0, t3, ep]
    rfl
  have lm : ∀ ρ : Rho, mLam [] (m_said_2 13 (m_law_k20_l8)) 5 ρ = .ok (.sh (.tuple [.str (Str.ofString "name"), .tuple [.str (Str.ofString "ash"), .int 0, .int 0]])) ρ := fun ρ => lam20 (caps := []) (ρ := ρ) rfl l8
  have ge : gEq (.tuple [.str (Str.ofString "name"), .tuple [.str (Str.ofString "ash"), .int 0, .int 0]]) (.tuple [.str (Str.ofString "name"), .tuple [.str (Str.ofString "ash"), .int 0, .int 0]]) = some (.bool true) := gEq_refl (by simp [alike, alikeAll]) (by simp [small, PyData.depth, PyData.depthAll])
  match r, hr with
  | [a3, a4, a5, a6, a7, a8, a9, a10, a11, a12], _ =>
    refine ⟨[none], ?_⟩
    unfold m_law_k20
    simp?! only [e0, rg, e, lm, t2, t3, ge]
end Lw
open PySem PySem.W PyProof.Rows in
set_option maxRecDepth 100000 in
set_option maxHeartbeats 0 in
theorem PySem.Challenge.cw_strangerbench_k20_paths_told_holds : PySem.Challenge.rw_strangerbench_k20_paths_told.Holds := by
  w_on; o_law; k_head; (case hw => w_witness2)
  k_fill
  refine Eg.law_walkT (l := PySem.Challenge.rw_strangerbench_k20_paths_told) (n := 63) (k := 9) (m := 12) (x := "script") (body := Lw.m_law_k20) (nms := ["NoName"]) rfl (by decide) rfl ⟨rfl, by decide, by decide⟩ (fun w h Y => PySem.W.km_in_of Y) ?F Lw.law_k20_true
  case F =>
    intro w mg fa h Y KX G hmg
    refine' Dv.all_in KX G hmg ?a_s0 ?l_s0 ?c_s0 ?k_s0 ?a_s1 ?l_s1 ?c_s1 ?k_s1 ?a_s2 ?l_s2 ?c_s2 ?k_s2 ?a_s3 ?l_s3 ?c_s3 ?k_s3 ?a_s4 ?l_s4 ?c_s4 ?k_s4 ?a_s5 ?l_s5 ?c_s5 ?k_s5 ?a_s6 ?l_s6 ?c_s6 ?k_s6 ?a_s7 ?l_s7 ?c_s7 ?k_s7 ?a_s8 ?l_s8 ?c_s8 ?k_s8 ?a_s9 ?l_s9 ?c_s9 ?k_s9 ?a_s10 ?l_s10 ?c_s10 ?k_s10 ?a_s11 ?l_s11 ?c_s11 ?k_s11 ?a_s12 ?l_s12 ?c_s12 ?k_s12 ?a_s13 ?l_s13 ?c_s13 ?k_s13 ?a_s14 ?l_s14 ?c_s14 ?k_s14 ?a_s15 ?l_s15 ?c_s15 ?k_s15 ?xa_NoName ?xb_NoName ?xc_NoName ?xd_NoName ?xe_NoName ?xf_NoName ?xg_NoName ?xh_NoName ?xi_NoName ?xj_NoName ?xk_NoName ?xl_NoName ?xm_NoName ?xn0_NoName ?xo_NoName ?xp_NoName ?xq_NoName ?ya_NoPaper ?ya_NoMatter ?ya_NoRight ?ya_NoHand ?ya_NoStep ?ya_NoTown ?ya_NoRow ?ya_NoMore ?ya_NoText ?ya_NoDeed ?ya_BenchError ?ya_LackError ?yi1_NoName ?yi2_NoName ?yi3_NoName ?yi4_NoName ?yi5_NoName ?yk_NoName_NoPaper ?yk_NoName_NoMatter ?yk_NoName_NoRight ?yk_NoName_NoHand ?yk_NoName_NoName ?yk_NoName_ValueError ?yk_NoName_LookupError ?yk_NoName_BenchError ?yks_NoName_NoDeed_NoText_NoMore_NoRow_NoTown_NoStep ?yhs_NoName_BenchError_LackError ?yt_s15 ?yu_s15 ?yv_s15 ?z_LookupError ?z_ValueError ?z_isinstance ?z_len ?z_list ?z_max ?z_min ?z_range ?z_repr ?z_set ?z_sorted ?z_tuple
    case a_s0 => k_is
    case l_s0 => k_is
    case c_s0 => k_is
    case k_s0 => k_is
    case a_s1 => k_is
    case l_s1 => k_is
    case c_s1 => k_is
    case k_s1 => k_is
    case a_s2 => k_is
    case l_s2 => k_is
    case c_s2 => k_is
    case k_s2 => k_is
    case a_s3 => k_is
    case l_s3 => k_is
    case c_s3 => k_is
    case k_s3 => k_is
    case a_s4 => k_is
    case l_s4 => k_is
    case c_s4 => k_is
    case k_s4 => k_is
    case a_s5 => k_is
    case l_s5 => k_is
    case c_s5 => k_is
    case k_s5 => k_is
    case a_s6 => k_is
    case l_s6 => k_is
    case c_s6 => k_is
    case k_s6 => k_is
    case a_s7 => k_is
    case l_s7 => k_is
    case c_s7 => k_is
    case k_s7 => k_is
    case a_s8 => k_is
    case l_s8 => k_is
    case c_s8 => k_is
    case k_s8 => k_is
    case a_s9 => k_is
    case l_s9 => k_is
    case c_s9 => k_is
    case k_s9 => k_is
    case a_s10 => k_is
    case l_s10 => k_is
    case c_s10 => k_is
    case k_s10 => k_is
    case a_s11 => k_is
    case l_s11 => k_is
    case c_s11 => k_is
    case k_s11 => k_is
    case a_s12 => k_is
    case l_s12 => k_is
    case c_s12 => k_is
    case k_s12 => k_is
    case a_s13 => k_is
    case l_s13 => k_is
    case c_s13 => k_is
    case k_s13 => k_is
    case a_s14 => k_is
    case l_s14 => k_is
    case c_s14 => k_is
    case k_s14 => k_is
    case a_s15 => k_is
    case l_s15 => k_is
    case c_s15 => k_is
    case k_s15 => k_is
    case xa_NoName => k_is
    case xb_NoName => kernel_rfl
    case xc_NoName => kernel_rfl
    case xd_NoName => k_is
    case xe_NoName => k_is
    case xf_NoName => k_is
    case xg_NoName => k_is
    case xh_NoName => k_is
    case xi_NoName => k_is
    case xj_NoName => k_is
    case xk_NoName => k_is
    case xl_NoName => k_is
    case xm_NoName => k_is
    case xn0_NoName => k_is
    case xo_NoName => k_is
    case xp_NoName => k_is
    case xq_NoName => k_is
    case ya_NoPaper => k_is
    case ya_NoMatter => k_is
    case ya_NoRight => k_is
    case ya_NoHand => k_is
    case ya_NoStep => k_is
    case ya_NoTown => k_is
    case ya_NoRow => k_is
    case ya_NoMore => k_is
    case ya_NoText => k_is
    case ya_NoDeed => k_is
    case ya_BenchError => k_is
    case ya_LackError => k_is
    case yi1_NoName => kernel_rfl
    case yi2_NoName => kernel_rfl
    case yi3_NoName => kernel_rfl
    case yi4_NoName => kernel_rfl
    case yi5_NoName => kernel_rfl
    case yk_NoName_NoPaper => kernel_rfl
    case yk_NoName_NoMatter => kernel_rfl
    case yk_NoName_NoRight => kernel_rfl
    case yk_NoName_NoHand => kernel_rfl
    case yk_NoName_NoName => kernel_rfl
    case yk_NoName_ValueError => kernel_rfl
    case yk_NoName_LookupError => kernel_rfl
    case yk_NoName_BenchError => kernel_rfl
    case yks_NoName_NoDeed_NoText_NoMore_NoRow_NoTown_NoStep => kernel_rfl
    case yhs_NoName_BenchError_LackError => kernel_rfl
    case yt_s15 => exact PySem.W.km_tabs_of Y _ (List.mem_singleton.mpr (by kernel_rfl))
    case yu_s15 => kernel_rfl
    case yv_s15 => kernel_rfl
    case z_LookupError => k_is
    case z_ValueError => k_is
    case z_isinstance => k_is
    case z_len => k_is
    case z_list => k_is
    case z_max => k_is
    case z_min => k_is
    case z_range => k_is
    case z_repr => k_is
    case z_set => k_is
    case z_sorted => k_is
    case z_tuple => k_is

